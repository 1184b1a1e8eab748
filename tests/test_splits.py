import itertools
import unittest

from crestkeys.crests import crest_of
from crestkeys.errors import Mingled, TooMany
from crestkeys.packs import pack_of
from crestkeys.splits import cut, joined, split
from tests.making import (GREATEST, chain_left, chain_right, crest_by_leafing, dice, flat, frozen, keys_about, plain,
                          sample_crests, some_cards, with_worths)


def crest_where(crest, fits):
    return crest_by_leafing([card for card in flat(crest) if fits(card[0])])


class Split(unittest.TestCase):
    def test_told(self):
        crest = crest_by_leafing([(2, 5, 0), (4, 9, 0), (6, 3, 0)])
        self.assertEqual(split(crest, 4), (((), (2, 5, 0), ()), ((), (4, 9, 0), ((), (6, 3, 0), ()))))
        self.assertEqual(split(crest, 5), ((((), (2, 5, 0), ()), (4, 9, 0), ()), ((), (6, 3, 0), ())))

    def test_below_and_above_all(self):
        crest = crest_by_leafing(plain(10))
        for key in (-(10 ** 59), -1, 0):
            self.assertEqual(split(crest, key), ((), crest))
        for key in (10, GREATEST + 1, 10 ** 59):
            self.assertEqual(split(crest, key), (crest, ()))
        self.assertEqual(split((), 5), ((), ()))

    def test_samples(self):
        for crest in sample_crests(60) + [with_worths(crest_by_leafing(plain(9)), 10 ** 40)]:
            kept = frozen(crest)
            for key in keys_about(crest):
                told = split(crest, key)
                self.assertIsInstance(told, tuple)
                self.assertEqual(told, (crest_where(crest, lambda k: k < key), crest_where(crest, lambda k: k >= key)))
                self.assertEqual(joined(*told), crest)
            self.assertEqual(frozen(crest), kept)


class Joined(unittest.TestCase):
    def test_told(self):
        one = crest_by_leafing([(1, 5, 0), (2, 3, 0)])
        other = crest_by_leafing([(3, 3, 0), (4, 4, 0)])
        self.assertEqual(joined(one, other), crest_by_leafing([(1, 5, 0), (2, 3, 0), (3, 3, 0), (4, 4, 0)]))

    def test_one_or_both_without_cards(self):
        crest = crest_by_leafing(plain(64))
        self.assertEqual(joined((), ()), ())
        self.assertEqual(joined(crest, ()), crest)
        self.assertEqual(joined((), crest), crest)

    def test_like_ranks(self):
        cards = [(key, 7, 0) for key in range(40)]
        self.assertEqual(joined(chain_right(cards[:20]), chain_right(cards[20:])), chain_right(cards))

    def test_samples(self):
        rng = dice(61)
        for many in [2, 3, 10, 40, 64] * 8:
            cards = sorted(some_cards(rng, many, ranks=rng.choice([1, 4, 99])))
            at = rng.randint(0, many)
            one, other = crest_by_leafing(cards[:at]), crest_by_leafing(cards[at:])
            kept = frozen([one, other])
            self.assertEqual(joined(one, other), crest_by_leafing(cards))
            self.assertEqual(frozen([one, other]), kept)

    def test_mingled(self):
        one = crest_by_leafing([(1, 1, 0), (5, 5, 0), (9, 2, 0)])
        for others, least in (([9], 9), ([9, 10], 9), ([10, 8], 8), ([0], 0), ([20, 5, 30], 5), ([0, 2, 3], 0)):
            other = crest_by_leafing([(key, key % 4, 0) for key in others])
            with self.assertRaises(Mingled) as caught:
                joined(one, other)
            self.assertEqual(caught.exception.key, least)
        with self.assertRaises(Mingled) as caught:
            joined(one, one)
        self.assertEqual(caught.exception.key, 1)

    def test_mingled_of_one_card_each(self):
        for key, least in ((9, 9), (9, 8), (GREATEST, 0), (0, 0)):
            with self.assertRaises(Mingled) as caught:
                joined(((), (key, 1, 0), ()), ((), (least, 2, 0), ()))
            self.assertEqual(caught.exception.key, least)

    def test_neighbours_are_not_mingled(self):
        self.assertEqual(joined(((), (4, 1, 0), ()), ((), (5, 2, 0), ())), (((), (4, 1, 0), ()), (5, 2, 0), ()))

    def test_64_and_65_cards_together(self):
        for ahead in (0, 1, 32, 63, 64):
            cards = [(key, key * 37 % 11, 0) for key in range(65)]
            one = crest_by_leafing(cards[:ahead])
            self.assertEqual(joined(one, crest_by_leafing(cards[ahead:64])), crest_by_leafing(cards[:64]))
            with self.assertRaises(TooMany) as caught:
                joined(one, crest_by_leafing(cards[ahead:]))
            self.assertEqual(caught.exception.most, 64)
        with self.assertRaises(TooMany) as caught:
            joined(chain_right(plain(64)), chain_left([(key + 64, key, 0) for key in range(64)]))
        self.assertEqual(caught.exception.most, 64)

    def test_mingled_goes_ahead_of_too_many(self):
        with self.assertRaises(Mingled) as caught:
            joined(crest_by_leafing(plain(64)), crest_by_leafing([(63, 1, 0), (64, 2, 0)]))
        self.assertEqual(caught.exception.key, 63)

    def test_worths_beyond_bounds(self):
        crest = with_worths(crest_by_leafing(plain(20)), -(10 ** 40))
        self.assertEqual(joined(*split(crest, 11)), crest)


class Cut(unittest.TestCase):
    def test_told(self):
        crest = crest_by_leafing([(key, key * 3 % 5, 0) for key in range(8)])
        told = cut(crest, 2, 4)
        self.assertEqual([[card[0] for card in flat(part)] for part in told], [[0, 1], [2, 3, 4], [5, 6, 7]])
        self.assertEqual(cut((), 1, 2), ((), (), ()))
        self.assertEqual(cut(crest, 0, 7), ((), crest, ()))
        self.assertEqual(cut(crest, -(10 ** 59), 10 ** 59), ((), crest, ()))

    def test_samples(self):
        rng = dice(62)
        for crest in sample_crests(63) + [with_worths(crest_by_leafing(plain(9)), 10 ** 40)]:
            kept = frozen(crest)
            asked = keys_about(crest)
            for _ in range(30):
                low, high = sorted([rng.choice(asked), rng.choice(asked)])
                due = (crest_where(crest, lambda k: k < low), crest_where(crest, lambda k: low <= k <= high),
                       crest_where(crest, lambda k: k > high))
                self.assertEqual(cut(crest, low, high), due)
            self.assertEqual(frozen(crest), kept)

    def test_one_key(self):
        crest = crest_by_leafing(plain(6))
        for key in range(6):
            self.assertEqual(cut(crest, key, key)[1], ((), (key, 6 - key, key), ()))

    def test_small_ones_all(self):
        for order in itertools.permutations(range(4)):
            crest = crest_of(pack_of(order, (1, 3, 5, 7)))
            for low in range(9):
                for high in range(low, 9):
                    below, within, above = cut(crest, low, high)
                    self.assertEqual(joined(joined(below, within), above), crest)
                    self.assertEqual(within, crest_where(crest, lambda k: low <= k <= high))


if __name__ == "__main__":
    unittest.main()
