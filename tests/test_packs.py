import itertools
import unittest

from crestkeys.errors import TooMany, Twice
from crestkeys.packs import by_keys, by_ranks, checked, order_of, pack_of
from tests.making import GREATEST, better, dice, plain, some_cards


class Checked(unittest.TestCase):
    def test_the_same_cards_in_their_row(self):
        rng = dice(4)
        for many in (0, 1, 2, 10, 63, 64):
            cards = some_cards(rng, many)
            self.assertEqual(checked(cards), cards)
            self.assertEqual(checked(tuple(cards)), cards)
            self.assertIsInstance(checked(tuple(cards)), list)

    def test_twice_keeps_the_key_of_the_first_one_that_comes_again(self):
        cards = [(1, 0, 0), (2, 0, 0), (3, 0, 0), (2, 9, 9), (1, 0, 0), (3, 0, 0)]
        for row in (cards, tuple(cards)):
            with self.assertRaises(Twice) as caught:
                checked(row)
            self.assertEqual(caught.exception.key, 2)

    def test_a_card_that_is_there_twice_is_refused(self):
        with self.assertRaises(Twice) as caught:
            checked([(0, 1, 2), (0, 1, 2)])
        self.assertEqual(caught.exception.key, 0)

    def test_more_than_64(self):
        for many in (65, 66, 100, 200):
            for row in (plain(many), tuple(plain(many))):
                with self.assertRaises(TooMany) as caught:
                    checked(row)
                self.assertEqual(caught.exception.most, 64)

    def test_twice_goes_ahead_of_too_many(self):
        for many in (64, 65, 199):
            cards = plain(many) + [(many - 1, 5, 5)]
            with self.assertRaises(Twice) as caught:
                checked(cards)
            self.assertEqual(caught.exception.key, many - 1)

    def test_like_ranks_and_worths_are_no_matter(self):
        cards = [(key, 7, 7) for key in range(64)]
        self.assertEqual(checked(cards), cards)


class Rows(unittest.TestCase):
    def test_by_keys(self):
        self.assertEqual(by_keys([(5, 1, 0), (0, 2, 0), (GREATEST, 0, 0), (3, 9, 0)]),
                         [(0, 2, 0), (3, 9, 0), (5, 1, 0), (GREATEST, 0, 0)])

    def test_by_ranks(self):
        self.assertEqual(by_ranks([(5, 1, 0), (0, 2, 0), (4, 2, 0), (3, 9, 0), (9, 1, 0)]),
                         [(3, 9, 0), (0, 2, 0), (4, 2, 0), (5, 1, 0), (9, 1, 0)])

    def test_any_packs(self):
        rng = dice(5)
        for many in (0, 1, 2, 3, 9, 64) * 5:
            cards = some_cards(rng, many, ranks=rng.choice([1, 3, 99]))
            for pack in (cards, tuple(cards)):
                keys, ranks = by_keys(pack), by_ranks(pack)
                self.assertIsInstance(keys, list)
                self.assertIsInstance(ranks, list)
                self.assertEqual(set(keys), set(cards))
                self.assertEqual(set(ranks), set(cards))
                self.assertEqual((len(keys), len(ranks)), (many, many))
                self.assertTrue(all(a[0] < b[0] for a, b in itertools.pairwise(keys)))
                self.assertTrue(all(better(a, b) for a, b in itertools.pairwise(ranks)))

    def test_worths_beyond_bounds(self):
        cards = [(2, 1, 10 ** 40), (1, 2, -(10 ** 40))]
        self.assertEqual(checked(cards), cards)
        self.assertEqual(by_keys(cards), cards[::-1])
        self.assertEqual(by_ranks(cards), cards[::-1])
        self.assertEqual(order_of(cards), (0, 1))


class Orders(unittest.TestCase):
    def test_order_of(self):
        self.assertEqual(order_of([(30, 1, 0), (10, 2, 0), (20, 2, 0), (5, 0, 0)]), (1, 2, 3, 0))
        self.assertEqual(order_of([]), ())
        self.assertEqual(order_of(()), ())

    def test_pack_of(self):
        told = [(30, 3, 0), (10, 2, 0), (20, 1, 0)]
        for order in ((2, 0, 1), [2, 0, 1]):
            for keys in ((10, 20, 30), [10, 20, 30]):
                self.assertEqual(pack_of(order, keys), told)
        self.assertEqual(pack_of((), []), [])
        self.assertEqual(pack_of([], ()), [])

    def test_order_of_counts_lesser_keys(self):
        rng = dice(6)
        for many in (0, 1, 2, 7, 64):
            cards = some_cards(rng, many, ranks=3)
            down = by_ranks(cards)
            told = order_of(cards)
            self.assertIsInstance(told, tuple)
            self.assertEqual(told, tuple(sum(b[0] < a[0] for b in cards) for a in down))
            self.assertEqual(order_of(tuple(cards)), told)

    def test_the_order_of_the_pack_of_an_order_is_that_order(self):
        for many in range(6):
            keys = [7 * key + 2 for key in range(many)]
            for order in itertools.permutations(range(many)):
                pack = pack_of(order, keys)
                self.assertIsInstance(pack, list)
                self.assertEqual([card[1] for card in pack], list(range(many, 0, -1)))
                self.assertTrue(all(card[2] == 0 for card in pack))
                self.assertEqual(order_of(pack), order)


class NothingIsChanged(unittest.TestCase):
    def test_what_is_handed_in_stays(self):
        cards = some_cards(dice(7), 20)
        kept = list(cards)
        for ask in (checked, by_keys, by_ranks, order_of):
            ask(cards)
            self.assertEqual(cards, kept)
        order, keys = [1, 0, 2], [4, 5, 6]
        pack_of(order, keys)
        self.assertEqual((order, keys), ([1, 0, 2], [4, 5, 6]))
        bad = [(1, 1, 1), (1, 1, 1)]
        self.assertRaises(Twice, checked, bad)
        self.assertEqual(bad, [(1, 1, 1), (1, 1, 1)])

    def test_told_lists_are_the_askers_own(self):
        cards = by_keys(some_cards(dice(8), 20, ranks=1))
        kept = list(cards)
        for ask in (checked, by_keys, by_ranks):
            told = ask(cards)
            self.assertIsNot(told, cards)
            again = list(told)
            told.reverse()
            told.append(None)
            self.assertEqual(cards, kept)
            self.assertEqual(ask(cards), again)
        told = pack_of((0, 1), (5, 6))
        told.clear()
        self.assertEqual(pack_of((0, 1), (5, 6)), [(5, 2, 0), (6, 1, 0)])


if __name__ == "__main__":
    unittest.main()
