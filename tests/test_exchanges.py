import unittest

from crestkeys.errors import NoPlace, OtherCards
from crestkeys.exchanges import exchanged, exchanged_by, exchanges, led, led_right, unlike_pairs
from crestkeys.orders import order_at
from crestkeys.shapecounts import orders_many
from crestkeys.shapes import parts_of, shape_in, shape_of
from crestkeys.turns import turned
from tests.making import (all_orders, dice, flat, frozen, nodes, odd_things, orders_by_shape, some_order, tops_first,
                          tree_by)


def plain_exchanged(order, k):
    row = list(order)
    row[k], row[k + 1] = row[k + 1], row[k]
    return tuple(row)


def plain_unlike(one, other):
    return sum(1 for low in range(len(one)) for high in range(low)
               if (one.index(low) < one.index(high)) != (other.index(low) < other.index(high)))


def plain_stretches(one, other):
    """The stretches that are a part of both trees, with unlike tops, rising."""
    found = []
    for order in (one, other):
        found.append({})
        for left, card, right, _ in nodes(tree_by(order)):
            places = [place[0] for place in flat((left, card, right))]
            found[-1][(places[0], places[-1])] = card[0]
    return sorted(pair for pair in found[0] if pair in found[1] and found[0][pair] != found[1][pair])


def words_by(order, row):
    words = []
    for k in row:
        order, word = exchanged(order, k)
        words.append(word)
    return order, words


class Exchanged(unittest.TestCase):
    def test_told(self):
        self.assertEqual(exchanged((1, 0, 2), 1), ((1, 2, 0), "free"))
        self.assertEqual(exchanged((1, 0, 2), 0), ((0, 1, 2), "turn"))
        self.assertEqual(exchanged((0, 1), 0), ((1, 0), "turn"))
        self.assertEqual(exchanged((0, 1, 3, 2), 2), ((0, 1, 2, 3), "turn"))
        self.assertEqual(exchanged((2, 1, 3, 0), 1), ((2, 3, 1, 0), "free"))

    def test_all_small(self):
        for many in range(2, 7):
            for order in all_orders(many):
                for k in range(many - 1):
                    told = exchanged(order, k)
                    after, word = told
                    self.assertEqual([type(told), type(after)], [tuple, tuple])
                    self.assertEqual(after, plain_exchanged(order, k))
                    alike = tops_first(tree_by(order)) == tops_first(tree_by(after))
                    self.assertEqual(word, "free" if alike else "turn")

    def test_free_and_turn(self):
        for many in range(2, 6):
            for order in all_orders(many):
                for k in range(many - 1):
                    after, word = exchanged(order, k)
                    one, other = sorted(order[k:k + 2])
                    between = [place for place in order[:k] if one < place < other]
                    self.assertEqual(word, "free" if between else "turn")
                    if word == "turn":
                        self.assertEqual(shape_in(turned(tree_by(order), order[k + 1])), shape_of(after))
                        uppers = {node[1][0]: node[3] for node in nodes(tree_by(order))}
                        self.assertEqual(uppers[order[k + 1]][0], order[k])

    def test_of_forty(self):
        rng = dice(89)
        for _ in range(10):
            order = some_order(rng, 40)
            for k in (0, 1, 20, 38):
                after, word = exchanged(order, k)
                self.assertEqual(after, plain_exchanged(order, k))
                self.assertEqual(word == "free", shape_of(order) == shape_of(after))

    def test_no_place(self):
        for many in (0, 1, 2, 3, 40):
            order = tuple(range(many))
            for k in (-1, -2, -many, many - 1, many, many + 1, 10 ** 59, -(10 ** 59)):
                with self.assertRaises(NoPlace) as caught:
                    exchanged(order, k)
                self.assertEqual(caught.exception.place, k)


class ExchangedBy(unittest.TestCase):
    def test_told(self):
        self.assertEqual(exchanged_by((1, 0, 2), []), ((1, 0, 2), []))
        self.assertEqual(exchanged_by((1, 0, 2), [1, 0, 1]), ((2, 0, 1), [1, 2]))
        self.assertEqual(exchanged_by((), ()), ((), []))

    def test_rows_of_up_to_800(self):
        rng = dice(90)
        for many, length in ((2, 5), (5, 40), (40, 800)):
            order = some_order(rng, many)
            row = [rng.randrange(many - 1) for _ in range(length)]
            after, words = words_by(order, row)
            turns = [number for number, word in enumerate(words) if word == "turn"]
            kept = list(row)
            for handed in (row, tuple(row)):
                told = exchanged_by(order, handed)
                self.assertEqual(told, (after, turns))
                self.assertEqual([type(told), type(told[0]), type(told[1])], [tuple, tuple, list])
            self.assertEqual(row, kept)

    def test_the_first_that_is_refused(self):
        for row, bad in (([0, 1, 2, 9, -1], 9), ([-1], -1), ([0] * 799 + [3], 3), ([10 ** 59, 0], 10 ** 59)):
            with self.assertRaises(NoPlace) as caught:
                exchanged_by((2, 0, 1, 3), row)
            self.assertEqual(caught.exception.place, bad)

    def test_the_list_is_the_askers_own(self):
        told = exchanged_by((0, 1), [0, 0])
        told[1].clear()
        self.assertEqual(exchanged_by((0, 1), [0, 0]), ((0, 1), [0, 1]))


class Between(unittest.TestCase):
    def test_told(self):
        self.assertEqual(unlike_pairs((0, 1, 2), (2, 1, 0)), 3)
        self.assertEqual(unlike_pairs((0, 1, 2), (0, 1, 2)), 0)
        self.assertEqual(exchanges((0, 1), (1, 0)), [0])
        self.assertEqual((unlike_pairs((), ()), exchanges((), ()), led((), ())), (0, [], ("row", [])))
        self.assertEqual(led((1, 0, 2), (1, 2, 0)), ("row", [1]))
        self.assertEqual(led((1, 0, 2), (0, 1, 2)), ("part", 0, 2))
        self.assertEqual(led((0, 1), (0, 1)), ("row", []))

    def held(self, one, other):
        many = plain_unlike(one, other)
        self.assertEqual(unlike_pairs(one, other), many)
        row = exchanges(one, other)
        self.assertIs(type(row), list)
        self.assertEqual(len(row), many)
        self.assertEqual(words_by(one, row)[0], other)
        told = led(one, other)
        self.assertIs(type(told), tuple)
        if tops_first(tree_by(one)) == tops_first(tree_by(other)):
            self.assertEqual((len(told), told[0], len(told[1])), (2, "row", many))
            self.assertIs(type(told[1]), list)
            after, words = words_by(one, told[1])
            self.assertEqual((after, words), (other, ["free"] * many))
        else:
            self.assertEqual(told, ("part",) + plain_stretches(one, other)[0])
        self.assertIs(led_right(one, other, told), True)

    def test_all_small(self):
        for many in range(5):
            for one in all_orders(many):
                for other in all_orders(many):
                    self.held(one, other)

    def test_samples(self):
        rng = dice(91)
        for _ in range(120):
            many = rng.choice([5, 6, 7, 12])
            self.held(some_order(rng, many), some_order(rng, many))
        for _ in range(6):
            one, other = some_order(rng, 40), some_order(rng, 40)
            self.held(one, other)
            shape = shape_of(one)
            self.held(one, order_at(shape, rng.randrange(orders_many(shape))))
        self.held(tuple(range(40)), tuple(range(40))[::-1])

    def test_all_orders_of_one_shape(self):
        for shape, orders in orders_by_shape(5).items():
            for one in orders:
                for other in orders:
                    self.held(one, other)

    def test_no_row_is_shorter(self):
        for many in range(1, 5):
            start = tuple(range(many))
            far, line = {start: 0}, [start]
            for order in line:
                for k in range(many - 1):
                    after = plain_exchanged(order, k)
                    if after not in far:
                        far[after] = far[order] + 1
                        line.append(after)
            for order in all_orders(many):
                self.assertEqual(unlike_pairs(start, order), far[order])

    def test_the_first_of_several_stretches(self):
        one, other = (2, 0, 1, 3, 4), (2, 1, 0, 4, 3)
        self.assertEqual(plain_stretches(one, other), [(0, 1), (3, 4)])
        self.assertEqual(led(one, other), ("part", 0, 1))
        one, other = (0, 1, 2, 3), (2, 1, 0, 3)
        self.assertEqual(led(one, other), ("part",) + plain_stretches(one, other)[0])

    def test_other_cards(self):
        for one, other in (((), (0,)), ((0,), ()), ((0, 1), (0, 1, 2)), (tuple(range(40)), tuple(range(39)))):
            for ask in (unlike_pairs, exchanges, led):
                with self.assertRaises(OtherCards):
                    ask(one, other)

    def test_the_lists_are_the_askers_own(self):
        one, other = (2, 0, 1, 3), (2, 3, 0, 1)
        for ask in (lambda: exchanges(one, other), lambda: led(one, other)[1], lambda: led(one, one)[1]):
            told = ask()
            kept = list(told)
            told.append(None)
            self.assertEqual(ask(), kept)


class LedRight(unittest.TestCase):
    one, other = (2, 0, 1, 3, 4), (2, 3, 0, 4, 1)

    def test_rows_that_lead(self):
        self.assertEqual(shape_of(self.one), shape_of(self.other))
        for row in ([2, 1, 3], (2, 1, 3)):
            self.assertIs(led_right(self.one, self.other, ("row", row)), True)
        one, other = (3, 1, 0, 2, 5, 4), (3, 5, 4, 1, 0, 2)
        for row in ([3, 2, 1, 4, 3, 2], [3, 4, 2, 3, 1, 2]):
            self.assertIs(led_right(one, other, ("row", row)), True)
        self.assertIs(led_right((), (), ("row", [])), True)
        self.assertIs(led_right((), (), ("row", ())), True)
        self.assertIs(led_right((0, 1), (0, 1), ("row", ())), True)

    def test_rows_that_do_not(self):
        for row in ([], [2], [2, 1], [2, 1, 1], [1, 2, 3], [3, 1, 2], [2, 1, 3, 3, 3], [2, 1, 3, 2, 2], [2, 2, 2, 1, 3],
                    [2, 1, 9], [9, 2, 1], [-2, 1, 3], [2, 1, -1], [2, 1, 4], [2, 1, 10 ** 59],
                    [2, True, 3], [2, "1", 3], [2, None, 3], [2, [1], 3], [2, (1,), 3], ["2", "1", "3"],
                    "213", "", None, 5, True, 213):
            self.assertIs(led_right(self.one, self.other, ("row", row)), False, row)
        self.assertIs(led_right((0, 1), (0, 1), ("row", [0, 0])), False)
        self.assertIs(led_right((1, 0, 2), (1, 2, 0), ("row", [1, 1, 1])), False)
        self.assertIs(led_right((1, 0, 2), (1, 2, 0), ("row", [True])), False)

    def test_a_turn_in_the_row(self):
        self.assertIs(led_right((0, 1), (1, 0), ("row", [0])), False)
        # It leads there, and is as short as can be, but a turn is in it.
        one, other = (0, 1, 2, 3), (1, 0, 3, 2)
        self.assertEqual(exchanged_by(one, [0, 2])[0], other)
        self.assertIs(led_right(one, other, ("row", [0, 2])), False)

    def test_forms(self):
        good, row = ("row", [2, 1, 3]), [2, 1, 3]
        self.assertIs(led_right(self.one, self.other, good), True)
        for thing in (list(good), ("row",), ("row", row, row), ("rows", row), ("ROW", row), ("part", row), (row, "row"),
                      ("row", (row,)), (["row"], row), row, tuple(row), ("row", *row), ("", row), (None, row),
                      *odd_things()):
            self.assertIs(led_right(self.one, self.other, thing), False, thing)

    def test_stretches(self):
        for many in range(1, 5):
            for one in all_orders(many):
                for other in all_orders(many):
                    right = plain_stretches(one, other)
                    for low in range(-1, many + 1):
                        for high in range(-1, many + 1):
                            self.assertIs(led_right(one, other, ("part", low, high)), (low, high) in right)

    def test_stretches_of_forty(self):
        rng = dice(92)
        one, other = some_order(rng, 40), some_order(rng, 40)
        right = plain_stretches(one, other)
        self.assertTrue(right)
        for low, high, _ in parts_of(shape_of(one)) + parts_of(shape_of(other)):
            self.assertIs(led_right(one, other, ("part", low, high)), (low, high) in right)

    def test_forms_of_stretches(self):
        one, other = (0, 1), (1, 0)
        self.assertIs(led_right(one, other, ("part", 0, 1)), True)
        for thing in (["part", 0, 1], ("part", 0), ("part", (0, 1)), ("part", [0, 1]), ("part", 0, 1, 1), ("row", 0, 1),
                      ("part", False, 1), ("part", 0, True), ("part", False, True), ("part", "0", "1"),
                      ("part", None, 1), ("part", 0, None), ("part", 0, [1]), ("part", [0], 1), ("part", 0, 10 ** 59),
                      ("part", -2, -1), ("parts", 0, 1), (0, 1), (None, 0, 1), *odd_things()):
            self.assertIs(led_right(one, other, thing), False, thing)

    def test_what_is_handed_in_stays(self):
        thing = ("row", [2, 1, 3])
        kept = frozen(thing)
        for _ in range(2):
            self.assertIs(led_right(self.one, self.other, thing), True)
            self.assertEqual(frozen(thing), kept)


if __name__ == "__main__":
    unittest.main()
