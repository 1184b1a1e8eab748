import unittest

from crestkeys.errors import NoKey, NoTurn, TooMany, Twice
from crestkeys.trees import is_tree
from crestkeys.turns import leafed, turned, turned_by
from tests.making import (GREATEST, all_turns, chain_left, chain_right, crest_by_leafing, dice, flat, frozen,
                          keys_about, leafed_plainly, nodes, plain, sample_trees, some_cards, turns_of_chance,
                          with_worths, zigzag)


def leaf(key):
    return ((), (key, 0, key), ())


class Turned(unittest.TestCase):
    a, b, c = leaf(1), leaf(3), leaf(5)
    x, y = (2, 7, 8), (4, 1, 1)
    up_left = ((a, x, b), y, c)
    up_right = (a, x, (b, y, c))

    def test_to_either_side(self):
        self.assertEqual(turned(self.up_left, 2), self.up_right)
        self.assertEqual(turned(self.up_right, 4), self.up_left)

    def test_with_nothing_beneath(self):
        self.assertEqual(turned((((), self.x, ()), self.y, ()), 2), ((), self.x, ((), self.y, ())))
        self.assertEqual(turned(((), self.x, ((), self.y, ())), 4), (((), self.x, ()), self.y, ()))

    def test_deeper_all_else_stays(self):
        for z, place in (((9, 0, 0), 0), ((0, 0, 0), 2)):
            whole, due = [(), z, ()], [(), z, ()]
            whole[place], due[place] = self.up_left, self.up_right
            self.assertEqual(turned(tuple(whole), 2), tuple(due))
            self.assertEqual(turned(tuple(due), 4), tuple(whole))

    def test_no_turn_at_the_top(self):
        for tree, key in ((self.up_left, 4), (self.up_right, 2), (leaf(0), 0), (leaf(GREATEST), GREATEST)):
            with self.assertRaises(NoTurn) as caught:
                turned(tree, key)
            self.assertEqual(caught.exception.key, key)

    def test_no_key(self):
        for tree in ((), leaf(7), self.up_left, self.up_right):
            for key in (-1, 0, 6, GREATEST, GREATEST + 1, 10 ** 59, -(10 ** 59)):
                with self.assertRaises(NoKey) as caught:
                    turned(tree, key)
                self.assertEqual(caught.exception.key, key)

    def test_samples(self):
        for tree in sample_trees(30, 25):
            due = dict(all_turns(tree))
            kept = frozen(tree)
            for key in keys_about(tree):
                if key in due:
                    told = turned(tree, key)
                    self.assertEqual(told, due[key])
                    self.assertEqual(flat(told), flat(tree))
                    self.assertTrue(is_tree(told))
                elif tree != () and key == tree[1][0]:
                    self.assertRaises(NoTurn, turned, tree, key)
                else:
                    self.assertRaises(NoKey, turned, tree, key)
            self.assertEqual(frozen(tree), kept)

    def test_the_turn_at_the_other_card_undoes_it(self):
        for tree in sample_trees(31, 25):
            for _, card, _, upper in nodes(tree):
                if upper:
                    self.assertEqual(turned(turned(tree, card[0]), upper[0]), tree)

    def test_worths_beyond_bounds(self):
        tree = with_worths(self.up_left, 10 ** 40)
        self.assertEqual(turned(tree, 2), with_worths(self.up_right, 10 ** 40))
        self.assertEqual(turned_by(tree, [2, 4]), tree)
        self.assertEqual(leafed((), (5, 5, 10 ** 40)), ((), (5, 5, 10 ** 40), ()))


class TurnedBy(unittest.TestCase):
    def test_none(self):
        for tree in ((), chain_left(plain(5))):
            self.assertEqual(turned_by(tree, []), tree)
            self.assertEqual(turned_by(tree, ()), tree)

    def test_rows_of_chance(self):
        rng = dice(32)
        for many in (2, 3, 9, 64):
            for length in (1, 2, 50, 800):
                first, row, tree = turns_of_chance(rng, many, length)
                kept = list(row)
                self.assertEqual(turned_by(first, row), tree)
                self.assertEqual(turned_by(first, tuple(row)), tree)
                self.assertEqual(row, kept)

    def test_the_first_refused_turn_refuses(self):
        tree = chain_right(plain(4))
        for row, error, key in (([1, 1, 9], NoTurn, 1), ([1, 9, 1], NoKey, 9), ([0], NoTurn, 0), ([-1, 0], NoKey, -1),
                                ([2, 2, 2], NoTurn, 2), ([3] * 3 + [3, 17], NoTurn, 3)):
            for kind in (list, tuple):
                with self.assertRaises(error) as caught:
                    turned_by(tree, kind(row))
                self.assertEqual(caught.exception.key, key)
        self.assertEqual(tree, chain_right(plain(4)))

    def test_refused_at_the_end_of_a_long_row(self):
        tree = chain_right(plain(2))
        row = [1, 0] * 399 + [1]
        self.assertEqual(turned_by(tree, row), chain_left(plain(2)))
        with self.assertRaises(NoTurn) as caught:
            turned_by(tree, row + [1])
        self.assertEqual(caught.exception.key, 1)
        with self.assertRaises(NoKey) as caught:
            turned_by((), [5, 6])
        self.assertEqual(caught.exception.key, 5)


class Leafed(unittest.TestCase):
    def test_at_the_end_of_the_road(self):
        self.assertEqual(leafed((), (5, 6, 7)), ((), (5, 6, 7), ()))
        tree = ((), (4, 0, 0), leaf(8))
        # The rank does not matter.
        self.assertEqual(leafed(tree, (6, 99, 1)), ((), (4, 0, 0), (((), (6, 99, 1), ()), (8, 0, 8), ())))
        self.assertEqual(leafed(tree, (1, 99, 1)), (((), (1, 99, 1), ()), (4, 0, 0), leaf(8)))
        self.assertEqual(leafed(tree, (GREATEST, 0, 1)),
                         ((), (4, 0, 0), ((), (8, 0, 8), ((), (GREATEST, 0, 1), ()))))

    def test_samples(self):
        for tree in sample_trees(33, 25):
            cards = flat(tree)
            keys = [card[0] for card in cards]
            kept = frozen(tree)
            for key in keys_about(tree):
                if not 0 <= key <= GREATEST:
                    continue
                card = (key, 3, 4)
                if key in keys:
                    with self.assertRaises(Twice) as caught:
                        leafed(tree, card)
                    self.assertEqual(caught.exception.key, key)
                elif len(cards) >= 64:
                    with self.assertRaises(TooMany) as caught:
                        leafed(tree, card)
                    self.assertEqual(caught.exception.most, 64)
                else:
                    self.assertEqual(leafed(tree, card), leafed_plainly(tree, card))
            self.assertEqual(frozen(tree), kept)

    def test_the_64th_and_the_65th(self):
        cards = [(2 * key, key, 0) for key in range(63)]
        for tree in (chain_left(cards), chain_right(cards), zigzag(cards), crest_by_leafing(cards)):
            full = leafed(tree, (61, 5, 5))
            self.assertTrue(is_tree(full))
            self.assertEqual(len(flat(full)), 64)
            for key in (61, 0, 124):
                with self.assertRaises(Twice) as caught:
                    leafed(full, (key, 5, 5))
                self.assertEqual(caught.exception.key, key)
            for key in (63, 1, 125, GREATEST):
                with self.assertRaises(TooMany) as caught:
                    leafed(full, (key, 5, 5))
                self.assertEqual(caught.exception.most, 64)

    def test_leafed_from_the_greatest_down_it_is_the_crest(self):
        cards = sorted(some_cards(dice(34), 40, ranks=5), key=lambda card: (-card[1], card[0]))
        tree = ()
        for card in cards:
            tree = leafed(tree, card)
        self.assertEqual(tree, crest_by_leafing(cards))


if __name__ == "__main__":
    unittest.main()
