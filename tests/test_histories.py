import itertools
import math
import unittest
from fractions import Fraction

from crestkeys.errors import NoHistory, NoShape, TooMany
from crestkeys.histories import held, looks_at, rows_seen, seen_by, shape_share
from crestkeys.shapes import shape_of
from tests.making import (all_orders, dice, frozen, nodes, orders_by_shape, plain_fraction, plain_states, shape_of_keys,
                          some_history, some_order, some_shape, tree_by)

WAYS = ("kept", "fresh")
LOOK = ("look",)


def puts(*keys):
    return [("put", key) for key in keys]


def plain_looks(history, way):
    return [state for deed, state in zip(history, plain_states(history, way)) if deed == LOOK]


def plain_items(history, way):
    keys = [deed[1] for deed in history if deed[0] == "put"]
    return len(keys) if way == "fresh" else len(set(keys))


def plain_row(history, way, order):
    return tuple(shape_of_keys(look, order) for look in plain_looks(history, way))


def plain_counts(history, way):
    counts = {}
    for order in all_orders(plain_items(history, way)):
        row = plain_row(history, way, order)
        counts[row] = counts.get(row, 0) + 1
    return counts


def plain_shares(history, way):
    deals = math.factorial(plain_items(history, way))
    return {row: Fraction(many, deals) for row, many in plain_counts(history, way).items()}


def small(history, most_items=5, most_looks=6):
    return (all(plain_items(history, way) <= most_items for way in WAYS)
            and history.count(LOOK) <= most_looks)


def small_histories(seed, times, most_items=5, keys=(0, 3, -7, 10 ** 59)):
    rng = dice(seed)
    made = [[], [LOOK], [LOOK, LOOK]]
    while len(made) < times:
        history = some_history(rng, rng.randint(1, 12), keys, rng.choice([2, 4]))
        if small(history, most_items):
            made.append(history)
    return made


class LooksAt(unittest.TestCase):
    again = puts(5, 2) + [LOOK, ("take", 5), LOOK] + puts(9, 5) + [LOOK]

    def test_told(self):
        self.assertEqual(looks_at(self.again, "kept"),
                         [((2, 1), (5, 0)), ((2, 1),), ((2, 1), (5, 0), (9, 2))])
        self.assertEqual(looks_at(self.again, "fresh"),
                         [((2, 1), (5, 0)), ((2, 1),), ((2, 1), (5, 3), (9, 2))])

    def test_without_looks_and_without_keys(self):
        for way in WAYS:
            self.assertEqual(looks_at([], way), [])
            self.assertEqual(looks_at(puts(1, 2), way), [])
            self.assertEqual(looks_at([LOOK, ("put", 4), ("take", 4), LOOK], way), [(), ()])

    def test_samples(self):
        rng = dice(111)
        for _ in range(150):
            history = some_history(rng, rng.randint(0, 40), [rng.randint(-9, 9) for _ in range(9)] + [10 ** 59])
            kept = frozen(history)
            for way in WAYS:
                due = [tuple(sorted(look.items())) for look in plain_looks(history, way)]
                told = looks_at(history, way)
                self.assertEqual(told, due)
                self.assertEqual((type(told), {type(look) for look in told} <= {tuple}), (list, True))
                self.assertEqual(looks_at(tuple(history), way), due)
                told.append(None)
                self.assertEqual(looks_at(history, way), due)
            self.assertEqual(frozen(history), kept)

    def test_forty_deeds(self):
        history = puts(*range(39)) + [LOOK]
        for way in WAYS:
            self.assertEqual(looks_at(history, way), [tuple((key, key) for key in range(39))])


class SeenBy(unittest.TestCase):
    def test_told(self):
        history = LooksAt.again
        self.assertEqual(seen_by(history, "kept", (1, 2, 0)), ((0, 1), (0,), (0, 2, 1)))
        self.assertEqual(seen_by(history, "fresh", (3, 1, 2, 0)), ((0, 1), (0,), (1, 0, 2)))
        self.assertEqual(seen_by([], "kept", ()), ())
        self.assertEqual(seen_by([LOOK], "fresh", ()), ((),))

    def test_samples(self):
        rng = dice(112)
        for _ in range(150):
            history = some_history(rng, rng.randint(0, 25), list(range(10)))
            for way in WAYS:
                items = plain_items(history, way)
                if items > 10:
                    continue
                order = some_order(rng, items)
                kept = frozen([history, order])
                told = seen_by(history, way, order)
                self.assertEqual(told, plain_row(history, way, order))
                self.assertEqual(seen_by(tuple(history), way, order), told)
                self.assertEqual((type(told), {type(shape) for shape in told} <= {tuple}), (tuple, True))
                self.assertEqual(frozen([history, order]), kept)

    def test_kept_sees_the_same_again_and_fresh_may_not(self):
        history = puts(1, 2) + [LOOK, ("take", 1), ("put", 1), LOOK]
        for order in all_orders(2):
            one, other = seen_by(history, "kept", order)
            self.assertEqual(one, other)
        self.assertTrue(any(len(set(seen_by(history, "fresh", order))) == 2 for order in all_orders(3)))


class NoHistories(unittest.TestCase):
    wrong = ((puts(1, 1), 1), ([("take", 1)], 0), (puts(1, 2) + [LOOK, ("put", 2)], 3),
             (puts(1) + [("take", 1), ("take", 1)], 2), ([LOOK, LOOK, ("take", 0), ("put", 3), ("put", 3)], 2),
             (puts(1) + [("take", 1), ("put", 1), ("take", 2)], 3), (puts(*range(39)) + [("put", 0)], 39),
             (puts(0) + [("take", 0)] * 2 + puts(0, 0), 2))

    def refused(self, at, ask, *told):
        kept = frozen(told)
        for _ in range(2):
            with self.assertRaises(NoHistory) as caught:
                ask(*told)
            self.assertEqual(caught.exception.at, at)
        self.assertEqual(frozen(told), kept)

    def test_the_first_wrong_deed(self):
        for history, at in self.wrong:
            for way in WAYS:
                for told in (history, tuple(history)):
                    self.refused(at, looks_at, told, way)
                    self.refused(at, seen_by, told, way, ())
                    self.refused(at, rows_seen, told, way)
                    self.refused(at, held, told, [], way)
                    self.refused(at, held, [], told, way)

    def test_ahead_of_too_many(self):
        great = puts(*range(7)) + [LOOK] * 7
        for way in WAYS:
            self.refused(14, rows_seen, great + [("put", 0)], way)
            self.refused(14, held, great + [("put", 0)], great, way)
            self.refused(14, held, great, great + [("put", 0)], way)
            self.refused(14, held, great + [("put", 0)], [("take", 0)], way)
            self.refused(0, held, [("take", 0)], great + [("put", 0)], way)

    def test_samples(self):
        rng = dice(113)
        for _ in range(100):
            history = some_history(rng, rng.randint(1, 30), list(range(6)))
            at = rng.randrange(len(history))
            behind = plain_states(history[:at], "kept")[-1] if at else {}
            key = rng.randrange(6)
            wrong = ("put" if key in behind else "take", key)
            for way in WAYS:
                self.refused(at, looks_at, history[:at] + [wrong] + history[at:], way)


class RowsSeen(unittest.TestCase):
    def test_told(self):
        history = puts(1, 2) + [LOOK, ("take", 1), ("put", 1), LOOK]
        up, down = (0, 1), (1, 0)
        self.assertEqual(rows_seen(history, "kept"), [((up, up), 1), ((down, down), 1)])
        self.assertEqual(rows_seen(history, "fresh"),
                         [((up, up), 2), ((up, down), 1), ((down, up), 1), ((down, down), 2)])

    def test_without_looks_and_without_keys(self):
        for way in WAYS:
            self.assertEqual(rows_seen([], way), [((), 1)])
            self.assertEqual(rows_seen(puts(1, 2, 3), way), [((), 6)])
            self.assertEqual(rows_seen([LOOK, LOOK], way), [(((), ()), 1)])

    def test_held_against_all_deals(self):
        for history in small_histories(114, 80):
            kept = frozen(history)
            for way in WAYS:
                told = rows_seen(history, way)
                self.assertEqual(told, sorted(plain_counts(history, way).items()))
                self.assertEqual(sum(many for _, many in told), math.factorial(plain_items(history, way)))
                self.assertEqual(rows_seen(tuple(history), way), told)
                self.assertEqual({type(part) for part in told}, {tuple})
                due = list(told)
                told.append(None)
                self.assertEqual(rows_seen(history, way), due)
            self.assertEqual(frozen(history), kept)

    def test_six_and_seven(self):
        six = puts(*range(6)) + [LOOK]
        for way in WAYS:
            self.assertEqual(len(rows_seen(six, way)), 132)
            self.assertEqual(rows_seen(puts(1) + [LOOK] * 6, way), [(((0,),) * 6, 1)])
            self.assertEqual(held(six, puts(*range(5, -1, -1)) + [LOOK], way), ("alike",))
            self.assertEqual(held(puts(1) + [LOOK] * 6, puts(1) + [LOOK] * 6, way), ("alike",))
            for history in (puts(*range(7)), puts(*range(7)) + [LOOK], [LOOK] * 7, puts(1) + [LOOK] * 7):
                for ask in (lambda: rows_seen(history, way), lambda: held(history, [], way),
                            lambda: held([], history, way), lambda: held(history, history, way)):
                    with self.assertRaises(TooMany) as caught:
                        ask()
                    self.assertEqual(caught.exception.most, 6)
        self.assertEqual(rows_seen(six, "fresh"), sorted(plain_counts(six, "fresh").items()))

    def test_items_are_counted_by_the_way(self):
        history = puts(1) + [("take", 1), ("put", 1)] * 6 + [LOOK]
        self.assertEqual(rows_seen(history, "kept"), [(((0,),), 1)])
        self.assertEqual(held(history, history, "kept"), ("alike",))
        for ask in (lambda: rows_seen(history, "fresh"), lambda: held(history, history, "fresh")):
            with self.assertRaises(TooMany):
                ask()
        self.assertEqual(rows_seen(history[:-3] + [LOOK], "fresh"), [(((0,),), 720)])

    def test_what_one_look_sees(self):
        for history in small_histories(115, 60):
            for way in WAYS:
                deals = math.factorial(plain_items(history, way))
                for at, look in enumerate(plain_looks(history, way)):
                    seen = {}
                    for row, many in rows_seen(history, way):
                        seen[row[at]] = seen.get(row[at], 0) + many
                    for shape in orders_by_shape(len(look)):
                        self.assertEqual(plain_fraction(Fraction(seen[shape], deals)), shape_share(shape))

    def test_fresh_rows_are_products_where_no_key_stays(self):
        histories = [[LOOK] + puts(1, 2) + [LOOK, ("take", 1), ("take", 2)] + puts(2, 3, 1) + [LOOK]]
        for history in small_histories(116, 400):
            spells = [set(look.items()) for look in plain_looks(history, "fresh")]
            if len(spells) > 1 and all(not one & other for one, other in itertools.combinations(spells, 2)):
                histories.append(history)
        self.assertGreater(len([one for one in histories if len(plain_looks(one, "fresh")[-1]) > 1]), 5)
        for history in histories:
            deals = math.factorial(plain_items(history, "fresh"))
            for row, many in rows_seen(history, "fresh"):
                self.assertEqual(Fraction(many, deals), math.prod(Fraction(*shape_share(shape)) for shape in row))


class Held(unittest.TestCase):
    def test_keys(self):
        for one, other, at in (([LOOK], [], 0), ([], [LOOK], 0), ([LOOK, LOOK], [LOOK], 1),
                               (puts(1) + [LOOK], puts(2) + [LOOK], 0), (puts(1) + [LOOK], [LOOK] + puts(1), 0),
                               (puts(1) + [LOOK] + puts(2) + [LOOK], puts(1) + [LOOK, LOOK], 1),
                               (puts(1) + [LOOK, LOOK], puts(1) + [LOOK] + puts(2) + [LOOK, LOOK], 1),
                               ([LOOK] * 6, [LOOK] * 5, 5)):
            for way in WAYS:
                self.assertEqual(held(one, other, way), ("keys", at))
                self.assertEqual(held(other, one, way), ("keys", at))

    def test_row(self):
        stays = puts(1, 2) + [LOOK, LOOK]
        again = puts(1, 2) + [LOOK, ("take", 1), ("put", 1), LOOK]
        up = (0, 1)
        self.assertEqual(held(stays, again, "fresh"), ("row", (up, up), (1, 2), (1, 3)))
        self.assertEqual(held(again, stays, "fresh"), ("row", (up, up), (1, 3), (1, 2)))
        self.assertEqual(held(stays, again, "kept"), ("alike",))

    def test_held_against_all_deals(self):
        rng = dice(117)
        words, noughts = [], 0
        pairs = [self.by_plan(rng, self.plan(rng)) for _ in range(160)]
        pairs += itertools.combinations(small_histories(118, 12), 2)
        for one, other in pairs:
            kept = frozen([one, other])
            for way in WAYS:
                told = held(one, other, way)
                words.append((way, told[0]))
                noughts += (0, 1) in told[2:]
                self.assertEqual(told, self.plainly(one, other, way))
                self.assertEqual(held(tuple(one), tuple(other), way), told)
                self.assertIs(type(told), tuple)
            self.assertEqual(frozen([one, other]), kept)
        for word in (("fresh", "row"), ("fresh", "alike"), ("fresh", "keys"), ("kept", "alike"), ("kept", "keys")):
            self.assertGreater(words.count(word), 9)
        self.assertNotIn(("kept", "row"), words)
        self.assertGreater(noughts, 0)

    def plan(self, rng):
        """Which keys stand at each look."""
        return [rng.sample([1, 2, 3], rng.randint(0, 3)) for _ in range(rng.randint(1, 4))]

    def by_plan(self, rng, plan):
        """Two histories of at most five items with the same keys at each look."""
        made = []
        while len(made) < 2:
            history = self.one_by_plan(rng, plan)
            if small(history, 5):
                made.append(history)
            elif rng.random() < .1:
                plan = plan[:-1]
                made = []
        return made

    def one_by_plan(self, rng, plan):
        history, stands = [], []
        for keys in plan:
            for key in [key for key in stands if rng.random() < .3]:
                history += [("take", key), ("put", key)]
            deeds = [("take", key) for key in stands if key not in keys]
            deeds += [("put", key) for key in keys if key not in stands]
            history += rng.sample(deeds, len(deeds)) + [LOOK]
            stands = keys
        return history

    def plainly(self, one, other, way):
        ones = [sorted(look) for look in plain_looks(one, way)]
        others = [sorted(look) for look in plain_looks(other, way)]
        for at, (keys, beside) in enumerate(itertools.zip_longest(ones, others)):
            if keys != beside:
                return ("keys", at)
        ones, others = plain_shares(one, way), plain_shares(other, way)
        for row in sorted(set(ones) | set(others)):
            if ones.get(row, 0) != others.get(row, 0):
                return ("row", row, plain_fraction(Fraction(ones.get(row, 0))),
                        plain_fraction(Fraction(others.get(row, 0))))
        return ("alike",)

    def test_a_row_that_none_sees(self):
        one = puts(1, 2, 3) + [LOOK, ("take", 3), ("put", 3), LOOK]
        other = puts(1, 2, 3) + [LOOK, ("take", 2), ("put", 2), LOOK]
        self.assertEqual(held(one, other, "fresh"), ("row", ((0, 1, 2), (1, 0, 2)), (0, 1), (1, 24)))
        self.assertEqual(held(other, one, "fresh"), ("row", ((0, 1, 2), (1, 0, 2)), (1, 24), (0, 1)))

    def test_alike_where_the_same_keys_stayed(self):
        rng = dice(120)
        checked = 0
        for _ in range(400):
            one, other = self.by_plan(rng, self.plan(rng))
            self.assertEqual(held(one, other, "kept"), ("alike",))
            if self.stays(one) == self.stays(other):
                checked += len(one) != len(other)
                self.assertEqual(held(one, other, "fresh"), ("alike",))
        self.assertGreater(checked, 20)

    def stays(self, history):
        """The keys at each look, and for each two looks those that stood all the way between them."""
        looks = plain_looks(history, "fresh")
        return ([sorted(look) for look in looks],
                [sorted(key for key, _ in set(one.items()) & set(other.items()))
                 for one, other in itertools.combinations(looks, 2)])

    def test_too_many_goes_ahead_of_any_answer(self):
        for way in WAYS:
            for one, other in ((puts(*range(7)) + [LOOK], [LOOK]), ([LOOK] * 7, [])):
                for told in ((one, other), (other, one)):
                    with self.assertRaises(TooMany):
                        held(*told, way)


class ShapeShare(unittest.TestCase):
    def test_told(self):
        self.assertEqual(shape_share(()), (1, 1))
        self.assertEqual(shape_share((0,)), (1, 1))
        self.assertEqual(shape_share((1, 0, 2)), (1, 3))
        self.assertEqual(shape_share(tuple(range(24))), (1, math.factorial(24)))

    def test_all_small_and_some_great(self):
        for many in range(7):
            for shape, orders in orders_by_shape(many).items():
                self.assertEqual(shape_share(shape), plain_fraction(Fraction(len(orders), math.factorial(many))))
        rng = dice(121)
        for many in (10, 20, 24):
            for _ in range(5):
                shape = some_shape(rng, many)
                sizes = [1 + sum(len(list(nodes(part))) for part in (left, right))
                         for left, _, right, _ in nodes(tree_by(shape))]
                self.assertEqual(shape_share(shape), (1, math.prod(sizes)))

    def test_no_shapes(self):
        for many in range(7):
            for order in all_orders(many):
                if shape_of(order) != order:
                    with self.assertRaises(NoShape):
                        shape_share(order)
        with self.assertRaises(NoShape):
            shape_share((1, 2, 0) + tuple(range(3, 24)))


if __name__ == "__main__":
    unittest.main()
