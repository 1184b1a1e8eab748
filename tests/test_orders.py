import unittest

from crestkeys.errors import NoNumber, NoPlace, NoShape
from crestkeys.orders import ahead_many, come_at, order_at, order_number
from crestkeys.shapecounts import orders_many
from crestkeys.shapes import shape_of
from tests.making import all_orders, dice, leafed_plainly, orders_by_shape, some_order, some_shape, tops_first


class Numbered(unittest.TestCase):
    def test_all_small(self):
        for many in range(7):
            for shape, orders in orders_by_shape(many).items():
                for number, order in enumerate(orders):
                    self.assertEqual(order_at(shape, number), order)
                    self.assertEqual(order_number(order), number)

    def test_leafed_in_the_row_of_any_of_its_orders(self):
        for many in range(6):
            for shape in orders_by_shape(many):
                for number in range(orders_many(shape)):
                    tree = ()
                    for place in order_at(shape, number):
                        tree = leafed_plainly(tree, (place, 0, 0))
                    self.assertEqual(tops_first(tree), shape)

    def test_there_and_back(self):
        rng = dice(86)
        for many in (7, 13, 25, 39, 40):
            for _ in range(3):
                shape = some_shape(rng, many)
                last = orders_many(shape) - 1
                numbers = sorted({0, last} | {rng.randint(0, last) for _ in range(5)})
                orders = [order_at(shape, number) for number in numbers]
                self.assertEqual(orders, sorted(orders))
                self.assertEqual(orders[0], shape)
                for number, order in zip(numbers, orders):
                    self.assertIs(type(order), tuple)
                    self.assertEqual(shape_of(order), shape)
                    self.assertEqual(order_number(order), number)
                order = some_order(rng, many)
                self.assertEqual(order_at(shape_of(order), order_number(order)), order)

    def test_chains(self):
        for order in ((), (0,), tuple(range(40)), tuple(range(40))[::-1]):
            self.assertEqual(order_at(order, 0), order)
            self.assertEqual(order_number(order), 0)

    def test_no_number(self):
        for shape in ((), (0,), (1, 0, 2), (2, 0, 1, 4, 3), tuple(range(40)), some_shape(dice(87), 40)):
            many = orders_many(shape)
            for number in (-1, -many, many, many + 1, 10 ** 59, -(10 ** 59)):
                with self.assertRaises(NoNumber) as caught:
                    order_at(shape, number)
                self.assertEqual(caught.exception.number, number)


class Comes(unittest.TestCase):
    def test_told(self):
        self.assertEqual(come_at((0,), 0), (1,))
        self.assertEqual(come_at((1, 0, 2), 0), (0, 1, 1))
        self.assertEqual(come_at((1, 0, 2), 1), (2, 0, 0))
        self.assertEqual(ahead_many((1, 0, 2), 0, 2), 1)
        self.assertEqual(ahead_many((1, 0, 2), 1, 2), 2)
        self.assertEqual(ahead_many((1, 0, 2), 2, 1), 0)

    def test_all_small(self):
        for many in range(7):
            for shape, orders in orders_by_shape(many).items():
                for place in range(many):
                    often = [0] * many
                    for order in orders:
                        often[order.index(place)] += 1
                    told = come_at(shape, place)
                    self.assertEqual(told, tuple(often))
                    self.assertIs(type(told), tuple)
                self.ahead(shape, orders)

    def ahead(self, shape, orders):
        for one in range(len(shape)):
            for other in range(len(shape)):
                if one != other:
                    due = sum(1 for order in orders if order.index(one) < order.index(other))
                    self.assertEqual(ahead_many(shape, one, other), due)

    def test_great(self):
        rng = dice(88)
        for many in (12, 25, 39, 40):
            shape = some_shape(rng, many)
            ways = orders_many(shape)
            columns = [come_at(shape, place) for place in range(many)]
            for at in range(many):
                self.assertEqual(sum(columns[at]), ways)
                self.assertEqual(sum(column[at] for column in columns), ways)
            for _ in range(20):
                one, other = rng.sample(range(many), 2)
                self.assertEqual(ahead_many(shape, one, other) + ahead_many(shape, other, one), ways)

    def test_two_alike_halves(self):
        # Two chains of 19 and 20 beneath one top, mixed in all ways: the first places come first in as
        # many as their chain is long.
        shape = (19,) + tuple(range(19)) + tuple(range(20, 40))
        ways = orders_many(shape)
        self.assertEqual(ahead_many(shape, 0, 20) * 39, ways * 19)
        self.assertEqual(ahead_many(shape, 20, 0) * 39, ways * 20)
        self.assertEqual(come_at(shape, 0)[1] * 39, ways * 19)
        self.assertEqual(come_at(shape, 18)[39] * 39, ways * 19)

    def test_no_place(self):
        for shape in ((), (0,), (1, 0, 2), tuple(range(40))):
            many = len(shape)
            for place in (-1, -many - 1, many, many + 1, 10 ** 59, -(10 ** 59)):
                with self.assertRaises(NoPlace) as caught:
                    come_at(shape, place)
                self.assertEqual(caught.exception.place, place)
                for one, other in ((place, 0), (place, 99), (place, -5), (0, place)):
                    with self.assertRaises(NoPlace) as caught:
                        ahead_many(shape, one, other)
                    first = one if not 0 <= one < many else other
                    self.assertEqual(caught.exception.place, first)


class NoShapes(unittest.TestCase):
    def test_ahead_of_all_else(self):
        for many in range(6):
            for order in all_orders(many):
                if order == shape_of(order):
                    continue
                for ask in (lambda: order_at(order, 0), lambda: order_at(order, -1), lambda: come_at(order, 0),
                            lambda: come_at(order, 99), lambda: ahead_many(order, 0, 1),
                            lambda: ahead_many(order, -1, 99)):
                    with self.assertRaises(NoShape):
                        ask()


if __name__ == "__main__":
    unittest.main()
