import itertools
import math
import unittest

from crestkeys.facts import order_by, orders_holding, orders_many, shows_order
from tests.making import all_orders, dice, frozen, odd_things, otherwise


def holds_plainly(order, fact):
    one, others, word = fact
    ahead = order[:order.index(one)]
    return (not set(ahead) & set(others)) is word


def plain_orders(n, facts):
    return [order for order in all_orders(n) if all(holds_plainly(order, fact) for fact in facts)]


def is_stuck_plainly(items, facts):
    def bound(item):
        return any((one in items and item in others) if word else (one == item and set(others) <= items)
                   for one, others, word in facts)
    return bool(items) and all(bound(item) for item in items)


def subsets(n):
    return [items for many in range(n + 1) for items in itertools.combinations(range(n), many)]


def plain_stuck(n, facts):
    return [items for items in subsets(n) if is_stuck_plainly(set(items), facts)]


def all_facts(n):
    return [(one, others, word) for one in range(n) for others in subsets(n) if one not in others
            for word in (True, False)]


def some_facts(rng, n, many):
    facts = []
    for _ in range(many):
        one = rng.randrange(n)
        others = [item for item in range(n) if item != one]
        facts.append((one, tuple(sorted(rng.sample(others, rng.randint(0 if rng.random() < .1 else 1, n - 1)
                                                   if n > 1 else 0))), rng.random() < .4))
    return facts


def facts_by(rng, order, many, most=9):
    """Facts that hold by the order."""
    facts = []
    for _ in range(many):
        one = rng.choice(order)
        others = tuple(sorted(rng.sample([item for item in order if item != one], rng.randint(1, most))))
        facts.append((one, others, holds_plainly(order, (one, others, True))))
    return facts


def least_plainly(n, facts):
    """The least order by which all facts hold, by going on with each item in turn; None where there is none."""
    def go_on(order):
        left = [item for item in range(n) if item not in order]
        if not left:
            return order
        for item in left:
            if all(holds_plainly(list(order) + [item] + [other for other in left if other != item], fact)
                   or fact[0] not in order + (item,) for fact in facts):
                found = go_on(order + (item,))
                if found is not None:
                    return found
        return None
    return go_on(())


def sets_of_facts():
    """(n, facts): all of up to 2 facts of up to 3 items, and many of chance of up to 6."""
    rng = dice(101)
    for n in range(4):
        for many in range(3):
            yield from ((n, list(facts)) for facts in itertools.combinations(all_facts(n), many))
    for n in (3, 4, 5, 6):
        for _ in range(60 if n < 6 else 30):
            yield n, some_facts(rng, n, rng.randint(1, n + 3))
            order = tuple(rng.sample(range(n), n))
            yield n, facts_by(rng, order, rng.randint(1, 12), n - 1)


class OrderBy(unittest.TestCase):
    def test_told(self):
        self.assertEqual(order_by(3, [(2, (0, 1), True)]), ("order", (2, 0, 1)))
        self.assertEqual(order_by(3, [(0, (1, 2), False)]), ("order", (1, 0, 2)))
        self.assertEqual(order_by(3, [(0, (1,), True), (1, (0,), True)]), ("stuck", (0, 1)))
        self.assertEqual(order_by(3, [(0, (1, 2), False), (1, (0, 2), False), (2, (0, 1), False)]),
                         ("stuck", (0, 1, 2)))
        self.assertEqual(order_by(4, [(3, (), False), (1, (2,), True)]), ("stuck", (3,)))

    def test_held_against_all_orders(self):
        for n, facts in sets_of_facts():
            kept = frozen(facts)
            orders, stuck = plain_orders(n, facts), plain_stuck(n, facts)
            self.assertNotEqual(bool(orders), bool(stuck))
            told = order_by(n, facts)
            if orders:
                self.assertEqual(told, ("order", min(orders)))
            else:
                greatest = tuple(sorted({item for items in stuck for item in items}))
                self.assertEqual(told, ("stuck", greatest))
                self.assertIn(greatest, stuck)
            self.assertEqual(orders_many(n, facts), len(orders))
            self.assertEqual(orders_holding(n, facts), orders)
            self.assertEqual(order_by(n, tuple(facts)), told)
            self.assertEqual(orders_many(n, tuple(facts)), len(orders))
            self.assertEqual((type(told), type(told[1])), (tuple, tuple))
            self.assertEqual(frozen(facts), kept)
            self.assertEqual(order_by(n, facts), told)

    def test_facts_without_others(self):
        for n in range(1, 7):
            for one in range(n):
                self.assertEqual(order_by(n, [(one, (), True)]), ("order", tuple(range(n))))
                self.assertEqual(order_by(n, [(one, (), False)]), ("stuck", (one,)))
                self.assertEqual(orders_many(n, [(one, (), True)]), math.factorial(n))
                self.assertEqual(orders_many(n, [(one, (), False)]), 0)

    def test_no_facts_and_no_items(self):
        for n in range(11):
            self.assertEqual(order_by(n, []), ("order", tuple(range(n))))
            self.assertEqual(orders_many(n, ()), math.factorial(n))
        self.assertEqual((order_by(0, ()), orders_many(0, [])), (("order", ()), 1))

    def test_what_waits_for_a_stuck_set_is_in_the_greatest(self):
        facts = [(0, (1,), True), (1, (0,), True), (1, (2,), True), (3, (0, 2), False)]
        self.assertEqual(order_by(5, facts), ("stuck", (0, 1, 2, 3)))
        self.assertTrue(all(shows_order(5, facts, ("stuck", items)) for items in ((0, 1), (0, 1, 2), (0, 1, 2, 3))))

    def test_ten_items_and_sixty_facts(self):
        rng = dice(102)
        for _ in range(12):
            order = tuple(rng.sample(range(10), 10))
            facts = facts_by(rng, order, 60)
            word, told = order_by(10, facts)
            self.assertEqual((word, told), ("order", least_plainly(10, facts)))
            self.assertTrue(told <= order)
            self.assertTrue(all(holds_plainly(told, fact) for fact in facts))
            self.assertIs(shows_order(10, facts, ("order", order)), True)
            self.assertGreater(orders_many(10, facts), 0)
            # One against another one that holds by all orders left makes a stuck set.
            first = told[0]
            against = [(first, tuple(sorted(told[1:])), True), (told[9], tuple(sorted(told[:9])), True)]
            word, stuck = order_by(10, facts[:58] + against)
            self.assertEqual(word, "stuck")
            self.assertTrue(is_stuck_plainly(set(stuck), facts[:58] + against))
            self.assertEqual(orders_many(10, facts[:58] + against), 0)

    def test_counts_of_ten(self):
        every = math.factorial(10)
        for many in range(1, 10):
            others = tuple(range(1, many + 1))
            self.assertEqual(orders_many(10, [(0, others, True)]), every // (many + 1))
            self.assertEqual(orders_many(10, [(0, others, False)]), every - every // (many + 1))
            self.assertEqual(orders_many(10, [(0, others, True)] * 60), every // (many + 1))
        row = [(item, (item + 1,), True) for item in range(9)]
        self.assertEqual(orders_many(10, row), 1)
        self.assertEqual(order_by(10, row), ("order", tuple(range(10))))
        self.assertEqual(order_by(10, [(one + 1, (one,), True) for one in range(9)]), ("order", tuple(range(10))[::-1]))
        ring = row + [(9, (0,), True)]
        self.assertEqual((order_by(10, ring), orders_many(10, ring)), (("stuck", tuple(range(10))), 0))


class ShowsOrder(unittest.TestCase):
    def test_all_orders_and_sets(self):
        for n, facts in sets_of_facts():
            orders, stuck = plain_orders(n, facts), plain_stuck(n, facts)
            every = all_orders(n)
            for order in every if n < 5 else every[::7] + orders[:20]:
                self.assertIs(shows_order(n, facts, ("order", order)), order in orders)
                if len(order) > 1:
                    self.assertIs(shows_order(n, tuple(facts), ("stuck", order)), order in stuck)
            for items in subsets(n):
                self.assertIs(shows_order(n, facts, ("stuck", items)), items in stuck, (n, facts, items))
                if len(items) < n:
                    self.assertIs(shows_order(n, facts, ("order", items)), False)
            self.assertIs(shows_order(n, facts, order_by(n, facts)), True)

    def test_not_rising(self):
        facts = [(0, (1,), True), (1, (2,), True), (2, (0,), True), (3, (), False)]
        self.assertEqual(plain_stuck(4, facts), [(3,), (0, 1, 2), (0, 1, 2, 3)])
        for many in range(5):
            for items in itertools.product(range(-1, 5), repeat=many):
                due = items in ((3,), (0, 1, 2), (0, 1, 2, 3))
                self.assertIs(shows_order(4, facts, ("stuck", items)), due, items)

    def test_forms_of_orders(self):
        facts = [(2, (0, 1), True), (0, (1,), True)]
        good = ("order", (2, 0, 1))
        self.assertIs(shows_order(3, facts, good), True)
        for thing in [*otherwise(good), (2, 0, 1), ("stuck", (2, 0, 1)), ("order", (2, False, True)),
                      ("order", (2, False, 1)), ("order", (2, 0, True)), ("order", 2, 0, 1), ("order", "201"),
                      ("order",), ("order", (2, 0, 1, 3)), ("order", ()), ("order", (10 ** 59, 0, 1)), *odd_things()]:
            self.assertIs(shows_order(3, facts, thing), False, thing)

    def test_forms_of_stuck_sets(self):
        facts = [(1, (2,), True), (2, (1,), True), (0, (), False)]
        right = [("stuck", (1, 2)), ("stuck", (0,)), ("stuck", (0, 1, 2))]
        for good in right:
            self.assertIs(shows_order(4, facts, good), True)
            for thing in otherwise(good):
                # Their words tell apart what Python takes for alike: 1 and True.
                self.assertIs(shows_order(4, facts, thing), repr(thing) in map(repr, right), thing)
        for thing in [("stuck", ()), ("stuck",), ("stuck", (True, 2)), ("stuck", (False,)), ("stuck", (False, True, 2)),
                      ("stuck", (1, 1, 2)), ("stuck", (1, 2, 2)), ("stuck", (2, 1)), ("stuck", (0, 0)),
                      ("stuck", (0, 2, 1)), ("stuck", (1, 2, 4)), ("stuck", (-1, 1, 2)), ("stuck", [0]), ("stuck", 0),
                      ("stuck", "12"), ("stuck", None), ("stuck", (None,)), ("stuck", ("0",)), ("stuck", ((0,),)),
                      ("stuck", ([0],)), ["stuck", (0,)], ("order", (0,)), (0,), (1, 2), ("stuck", 0, 1, 2),
                      *odd_things()]:
            self.assertIs(shows_order(4, facts, thing), False, thing)

    def test_no_items(self):
        self.assertIs(shows_order(0, [], ("order", ())), True)
        for thing in (("stuck", ()), ("order", []), ("order", (0,)), ["order", ()], (), ("order",), *odd_things()):
            self.assertIs(shows_order(0, [], thing), False, thing)

    def test_what_is_handed_in_stays(self):
        facts = [(1, (2,), True), (2, (1,), True)]
        for thing in (("stuck", (1, 2)), ("stuck", [1, 2]), ["order", [0, 1, 2]]):
            kept = frozen([facts, thing])
            told = shows_order(3, facts, thing)
            self.assertIs(shows_order(3, facts, thing), told)
            self.assertEqual(frozen([facts, thing]), kept)


if __name__ == "__main__":
    unittest.main()
