import functools
import math
import unittest

from crestkeys.errors import NoNumber, NoShape
from crestkeys.shapecounts import orders_many, shape_at, shape_count, shape_number, shapes_high
from crestkeys.shapes import height_of, is_shape, shape_of
from tests.making import all_orders, dice, orders_by_shape, some_shape


def catalan(n):
    return math.comb(2 * n, n) // (n + 1)


class Counted(unittest.TestCase):
    def test_all_small(self):
        for many in range(7):
            shapes = list(orders_by_shape(many))
            self.assertEqual(shape_count(many), len(shapes))
            for number, shape in enumerate(shapes):
                self.assertEqual(shape_at(many, number), shape)
                self.assertEqual(shape_number(shape), number)

    def test_great(self):
        for many in range(41):
            self.assertEqual(shape_count(many), catalan(many))

    def test_first_and_last(self):
        for many in (1, 2, 39, 40):
            rising = tuple(range(many))
            self.assertEqual(shape_at(many, 0), rising)
            self.assertEqual(shape_at(many, catalan(many) - 1), rising[::-1])
            self.assertEqual(shape_number(rising), 0)
            self.assertEqual(shape_number(rising[::-1]), catalan(many) - 1)
        self.assertEqual(shape_at(0, 0), ())
        self.assertEqual(shape_number(()), 0)

    def test_there_and_back(self):
        rng = dice(84)
        for many in (7, 13, 25, 39, 40):
            numbers = sorted(rng.randrange(catalan(many)) for _ in range(12))
            shapes = [shape_at(many, number) for number in numbers]
            self.assertEqual(shapes, sorted(shapes))
            for number, shape in zip(numbers, shapes):
                self.assertIs(is_shape(shape), True)
                self.assertEqual(shape_number(shape), number)
            shape = some_shape(rng, many)
            self.assertEqual(shape_at(many, shape_number(shape)), shape)

    def test_neighbours_of_forty(self):
        number = catalan(40) // 3
        shapes = [shape_at(40, number + more) for more in range(30)]
        self.assertEqual(shapes, sorted(set(shapes)))

    def test_no_number(self):
        for many in (0, 1, 2, 5, 40):
            for number in (-1, -catalan(many), catalan(many), catalan(many) + 1, 10 ** 59, -(10 ** 59)):
                with self.assertRaises(NoNumber) as caught:
                    shape_at(many, number)
                self.assertEqual(caught.exception.number, number)

    def test_no_shape(self):
        for many in range(6):
            for order in all_orders(many):
                if order != shape_of(order):
                    for ask in (shape_number, orders_many):
                        with self.assertRaises(NoShape):
                            ask(order)


@functools.lru_cache(None)
def plain_high(n, h):
    if n == 0:
        return 1
    if h == 0:
        return 0
    return sum(plain_high(top, h - 1) * plain_high(n - 1 - top, h - 1) for top in range(n))


class High(unittest.TestCase):
    def test_all_small(self):
        for many in range(7):
            heights = [height_of(shape) for shape in orders_by_shape(many)]
            for h in range(9):
                self.assertEqual(shapes_high(many, h), sum(1 for height in heights if height <= h))

    def test_great(self):
        for many, h in ((40, 40), (40, 39), (40, 6), (40, 5), (31, 5), (32, 5), (0, 0), (0, 40), (40, 0), (1, 40)):
            self.assertEqual(shapes_high(many, h), plain_high(many, h))
        self.assertEqual(shapes_high(40, 40), catalan(40))
        self.assertEqual(shapes_high(31, 5), 1)
        self.assertEqual(shapes_high(32, 5), 0)
        self.assertEqual(shapes_high(40, 40) - shapes_high(40, 39), 2 ** 39)


def plain_orders_many(shape):
    """A left and a right part's orders, mixed in all ways."""
    if not shape:
        return 1
    left = [place for place in shape if place < shape[0]]
    right = [place for place in shape if place > shape[0]]
    return math.comb(len(shape) - 1, len(left)) * plain_orders_many(left) * plain_orders_many(right)


class Orders(unittest.TestCase):
    def test_all_small(self):
        for many in range(7):
            found = orders_by_shape(many)
            for shape in found:
                self.assertEqual(orders_many(shape), len(found[shape]))
            self.assertEqual(sum(orders_many(shape) for shape in found), math.factorial(many))

    def test_great(self):
        rng = dice(85)
        for many in (10, 30, 39, 40):
            for _ in range(5):
                shape = some_shape(rng, many)
                self.assertEqual(orders_many(shape), plain_orders_many(shape))
        self.assertEqual(orders_many(tuple(range(40))), 1)


if __name__ == "__main__":
    unittest.main()
