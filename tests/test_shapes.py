import unittest

from crestkeys.crests import crest_of
from crestkeys.errors import NoShape
from crestkeys.packs import order_of, pack_of
from crestkeys.shapes import height_of, is_order, is_shape, mirrored, parts_of, shape_in, shape_of
from tests.making import (all_orders, all_trees, chain_left, chain_right, crest_by_leafing, dice, flat, frozen, height_by,
                          nodes, odd_things, orders_by_shape, plain, sample_trees, some_order, some_shape, tops_first,
                          tree_by, with_worths)


class IsOrder(unittest.TestCase):
    def test_how_many(self):
        for many in (0, 1, 2, 39, 40):
            rising = tuple(range(many))
            for order in (rising, rising[::-1], some_order(dice(many), many)):
                self.assertIs(is_order(order), True)
        for many in (41, 42, 200):
            rising = tuple(range(many))
            for order in (rising, rising[::-1]):
                self.assertIs(is_order(order), False)
                self.assertIs(is_shape(order), False)

    def test_all_small(self):
        for many in range(5):
            orders = set(all_orders(many))
            for thing in all_rows(many):
                self.assertIs(is_order(thing), thing in orders, thing)

    def test_twice_and_left_out(self):
        for thing in ((0, 0), (1,), (1, 2), (0, 2), (-1, 0), (0, 1, 1), (2, 1, 2), (0, 1, 3), (10 ** 59,), (-1,),
                      tuple(range(1, 41)), tuple(range(39)) + (38,), tuple(range(39)) + (40,)):
            self.assertIs(is_order(thing), False, thing)
            self.assertIs(is_shape(thing), False, thing)

    def test_parts_that_are_no_whole_numbers(self):
        for bad in (True, False, None, "", "1", (), (1,), [], [1]):
            for thing in ((bad,), (0, bad), (bad, 0), (bad, 1), (1, bad), (0, bad, 2), (2, bad, 0)):
                self.assertIs(is_order(thing), False, thing)
                self.assertIs(is_shape(thing), False, thing)

    def test_things_that_are_no_tuples(self):
        for thing in [[], [0], [0, 1], "01", "", 0, None, True] + [thing for thing in odd_things() if thing != ()]:
            self.assertIs(is_order(thing), False, thing)
            self.assertIs(is_shape(thing), False, thing)


def all_rows(many):
    """All tuples of so many numbers from -1 to that."""
    rows = [()]
    for _ in range(many):
        rows = [row + (number,) for row in rows for number in range(-1, many + 1)]
    return rows


class ShapeOf(unittest.TestCase):
    def test_told(self):
        self.assertEqual(shape_of(()), ())
        self.assertEqual(shape_of((0,)), (0,))
        self.assertEqual(shape_of((2, 4, 0, 3, 1)), (2, 0, 1, 4, 3))
        self.assertEqual(shape_of((2, 0, 1, 4, 3)), (2, 0, 1, 4, 3))

    def test_all_small(self):
        for many in range(7):
            for order in all_orders(many):
                shape = shape_of(order)
                self.assertEqual(shape, tops_first(tree_by(order)))
                self.assertIs(type(shape), tuple)
                self.assertIs(is_shape(shape), True)
                self.assertIs(is_shape(order), order == shape)

    def test_no_order_of_the_shape_is_less(self):
        for many in range(7):
            for shape, orders in orders_by_shape(many).items():
                self.assertEqual(shape, orders[0])
                self.assertTrue(all(shape_of(order) == shape for order in orders))

    def test_of_the_crest_of_its_pack(self):
        rng = dice(81)
        for many in (1, 2, 5, 20, 39, 40):
            for _ in range(5):
                order = some_order(rng, many)
                keys = sorted(rng.sample(range(200), many))
                crest = crest_of(pack_of(order, keys))
                self.assertEqual(shape_in(crest), shape_of(order))
                self.assertEqual(shape_in(crest), shape_of(order_of(flat(crest))))

    def test_of_forty(self):
        rising = tuple(range(40))
        for order in (rising, rising[::-1]):
            self.assertEqual(shape_of(order), order)
            self.assertIs(is_shape(order), True)
        self.assertIs(is_shape((1, 2, 0) + tuple(range(3, 40))), False)


class ShapeIn(unittest.TestCase):
    def test_told(self):
        self.assertEqual(shape_in(()), ())
        self.assertEqual(shape_in(((), (77, 1, 1), ())), (0,))
        self.assertEqual(shape_in(crest_by_leafing([(10, 1, 0), (20, 9, 0), (30, 2, 0), (40, 3, 0)])), (1, 0, 3, 2))

    def test_all_trees(self):
        for many in range(6):
            for tree in all_trees([(7 * key, 0, 0) for key in range(many)]):
                self.assertEqual(shape_in(tree), tuple(key // 7 for key in tops_first(tree)))

    def test_samples(self):
        for tree in sample_trees(82, 25) + [with_worths(chain_left(plain(9)), 10 ** 40)]:
            kept = frozen(tree)
            if len(flat(tree)) > 40:
                continue
            places = {card[0]: place for place, card in enumerate(flat(tree))}
            shape = shape_in(tree)
            self.assertEqual(shape, tuple(places[key] for key in tops_first(tree)))
            self.assertIs(is_shape(shape), True)
            self.assertEqual(frozen(tree), kept)
        for many in (39, 40):
            self.assertEqual(shape_in(chain_right(plain(many))), tuple(range(many)))
            self.assertEqual(shape_in(chain_left(plain(many))), tuple(range(many))[::-1])


def plain_parts(shape):
    made = []
    for left, card, right, _ in nodes(tree_by(shape)):
        places = [one[0] for one in flat((left, card, right))]
        made.append((places[0], places[-1], card[0]))
    return sorted(made)


def some_shapes():
    rng = dice(83)
    made = [shape for many in range(7) for shape in orders_by_shape(many)]
    made += [some_shape(rng, many) for many in (10, 20, 39, 40) for _ in range(4)]
    return made + [tuple(range(40)), tuple(range(40))[::-1]]


class Parts(unittest.TestCase):
    def test_told(self):
        self.assertEqual(parts_of((2, 0, 1, 4, 3)), [(0, 1, 0), (0, 4, 2), (1, 1, 1), (3, 3, 3), (3, 4, 4)])
        self.assertEqual(height_of((2, 0, 1, 4, 3)), 3)
        self.assertEqual(mirrored((2, 0, 1, 4, 3)), (2, 0, 1, 4, 3))
        self.assertEqual(mirrored((0, 1, 2)), (2, 1, 0))
        self.assertEqual(mirrored((1, 0, 3, 2)), (2, 0, 1, 3))
        self.assertEqual((parts_of(()), height_of(()), mirrored(())), ([], 0, ()))
        self.assertEqual((parts_of((0,)), height_of((0,)), mirrored((0,))), ([(0, 0, 0)], 1, (0,)))

    def test_all_small_and_some_great(self):
        for shape in some_shapes():
            self.assertEqual(parts_of(shape), plain_parts(shape))
            self.assertIs(type(parts_of(shape)), list)
            self.assertEqual(height_of(shape), height_by(tree_by(shape)))
            turned_about = tops_first(tree_by([len(shape) - 1 - place for place in shape]))
            self.assertEqual(mirrored(shape), turned_about)
            self.assertIs(is_shape(mirrored(shape)), True)
            self.assertEqual(mirrored(mirrored(shape)), shape)

    def test_heights_of_forty(self):
        self.assertEqual(height_of(tuple(range(40))), 40)
        self.assertEqual(height_of(tuple(range(40))[::-1]), 40)

    def test_orders_that_are_no_shapes(self):
        for many in range(7):
            for order in all_orders(many):
                for ask in (parts_of, height_of, mirrored):
                    if order == shape_of(order):
                        ask(order)
                    else:
                        with self.assertRaises(NoShape):
                            ask(order)
        for order in ((1, 2, 0) + tuple(range(3, 40)), (38, 39) + tuple(range(37, -1, -1))):
            for ask in (parts_of, height_of, mirrored):
                with self.assertRaises(NoShape):
                    ask(order)

    def test_the_list_is_the_askers_own(self):
        for shape in ((), (2, 0, 1, 4, 3)):
            told = parts_of(shape)
            kept = list(told)
            told.append(None)
            self.assertEqual(parts_of(shape), kept)


if __name__ == "__main__":
    unittest.main()
