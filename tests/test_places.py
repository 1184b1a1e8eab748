import unittest

from crestkeys.errors import NoPlace
from crestkeys.places import at_place, place_of, size, sum_within
from tests.making import (GREATEST, chain_left, chain_right, crest_by_leafing, flat, frozen, keys_about, plain,
                          sample_trees, with_worths)


class Places(unittest.TestCase):
    tree = crest_by_leafing([(2, 5, 7), (4, 9, -3), (6, 3, 10), (9, 1, 0)])

    def test_told(self):
        self.assertEqual(size(self.tree), 4)
        self.assertEqual([place_of(self.tree, key) for key in range(12)], [0, 0, 0, 1, 1, 2, 2, 3, 3, 3, 4, 4])
        self.assertEqual(sum_within(self.tree, 2, 9), 14)
        self.assertEqual(sum_within(self.tree, 3, 8), 7)
        self.assertEqual(sum_within(self.tree, 4, 4), -3)
        self.assertEqual(sum_within(self.tree, 5, 5), 0)
        self.assertEqual(sum_within(self.tree, 6, 4), 0)
        self.assertEqual([at_place(self.tree, place) for place in range(4)],
                         [(2, 5, 7), (4, 9, -3), (6, 3, 10), (9, 1, 0)])

    def test_of_no_card_one_card_and_many(self):
        self.assertEqual((size(()), place_of((), 5), sum_within((), 0, 9)), (0, 0, 0))
        one = ((), (5, 6, -7), ())
        self.assertEqual((size(one), place_of(one, 5), place_of(one, 6), sum_within(one, 5, 5)), (1, 0, 1, -7))
        self.assertEqual(at_place(one, 0), (5, 6, -7))
        for tree in (chain_left(plain(64)), chain_right(plain(64)), crest_by_leafing(plain(64))):
            self.assertEqual(size(tree), 64)
            self.assertEqual([place_of(tree, key) for key in range(-1, 66)],
                             [0] + list(range(64)) + [64, 64])
            self.assertEqual([at_place(tree, place) for place in range(64)], plain(64))
            self.assertEqual(sum_within(tree, 0, 63), 63 * 32)
            self.assertEqual(sum_within(tree, -(10 ** 59), 10 ** 59), 63 * 32)

    def test_samples(self):
        for tree in sample_trees(60, 25) + [with_worths(self.tree, 10 ** 40), with_worths(self.tree, -(10 ** 40))]:
            kept = frozen(tree)
            cards = flat(tree)
            self.assertEqual(size(tree), len(cards))
            about = keys_about(tree)
            for key in about:
                self.assertEqual(place_of(tree, key), sum(1 for card in cards if card[0] < key))
            for low in about[::5]:
                for high in about[::3]:
                    due = sum(card[2] for card in cards if low <= card[0] <= high)
                    self.assertEqual(sum_within(tree, low, high), due)
            for place, card in enumerate(cards):
                self.assertEqual(at_place(tree, place), card)
                self.assertEqual(place_of(tree, card[0]), place)
            self.assertEqual(frozen(tree), kept)

    def test_no_place(self):
        for tree in [()] + sample_trees(61, 5):
            many = len(flat(tree))
            for place in (-1, -2, -many, -many - 1, many, many + 1, GREATEST, 10 ** 59, -(10 ** 59)):
                if 0 <= place < many:
                    continue
                with self.assertRaises(NoPlace) as caught:
                    at_place(tree, place)
                self.assertEqual(caught.exception.place, place)

    def test_numbers_are_whole(self):
        for told in (size(()), place_of((), 3), sum_within((), 0, 1), sum_within(self.tree, 6, 4)):
            self.assertIs(type(told), int)


if __name__ == "__main__":
    unittest.main()
