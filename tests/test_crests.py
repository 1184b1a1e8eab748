import itertools
import unittest

from crestkeys.crests import card_at, crest_of, holds, part_at, road, top_within
from crestkeys.errors import NoKey
from crestkeys.packs import pack_of
from crestkeys.trees import cards_in, fault, is_crest
from tests.making import (GREATEST, all_trees, better, chain_left, chain_right, crest_by_leafing, dice, flat,
                          keys_about, nodes, plain, rising, sample_trees, some_cards, with_worths)


class CrestOf(unittest.TestCase):
    def test_small_ones(self):
        self.assertEqual(crest_of([]), ())
        self.assertEqual(crest_of(()), ())
        self.assertEqual(crest_of([(5, 6, 7)]), ((), (5, 6, 7), ()))
        self.assertEqual(crest_of([(3, 1, 0), (1, 1, 0), (2, 5, 0)]),
                         (((), (1, 1, 0), ()), (2, 5, 0), ((), (3, 1, 0), ())))

    def test_like_ranks(self):
        cards = [(key, 7, 0) for key in range(64)]
        self.assertEqual(crest_of(cards[::-1]), chain_right(cards))

    def test_64_cards(self):
        self.assertEqual(crest_of(plain(64)), chain_right(plain(64)))
        rising_ranks = [(key, key, 0) for key in range(64)]
        self.assertEqual(crest_of(rising_ranks), chain_left(rising_ranks))

    def test_any_row_of_the_cards(self):
        for cards in ([(0, 1, 0), (1, 1, 0), (2, 3, 0), (3, 0, 0), (4, 3, 0)], plain(5)):
            due = crest_by_leafing(cards)
            for row in itertools.permutations(cards):
                self.assertEqual(crest_of(row), due)
                self.assertEqual(crest_of(list(row)), due)

    def test_any_packs(self):
        rng = dice(20)
        for many in (0, 1, 2, 5, 20, 63, 64) * 6:
            cards = some_cards(rng, many, ranks=rng.choice([1, 3, 1000]))
            told = crest_of(cards)
            self.assertEqual(told, crest_by_leafing(cards))
            self.assertIsNone(fault(told))
            self.assertTrue(is_crest(told))
            self.assertEqual(cards_in(told), rising(cards))
            rng.shuffle(cards)
            self.assertEqual(crest_of(cards), told)

    def test_it_is_the_only_crest_of_the_pack(self):
        for order in itertools.permutations(range(5)):
            pack = pack_of(order, range(5))
            free = [tree for tree in all_trees(rising(pack)) if fault(tree) is None]
            self.assertEqual(free, [crest_of(pack)])

    def test_each_part_of_a_crest_is_one(self):
        told = crest_of(some_cards(dice(21), 40, ranks=5))
        for left, card, right, _ in nodes(told):
            part = (left, card, right)
            self.assertIsNone(fault(part))
            self.assertEqual(crest_of(cards_in(part)), part)

    def test_worths_beyond_bounds(self):
        cards = [(2, 5, 10 ** 40), (1, 6, -(10 ** 40)), (3, 5, GREATEST + 1)]
        told = crest_of(cards)
        self.assertIsNone(fault(told))
        self.assertFalse(is_crest(told))
        self.assertEqual(cards_in(told), rising(cards))

    def test_what_is_handed_in_stays(self):
        cards = some_cards(dice(22), 20)
        kept = list(cards)
        crest_of(cards)
        self.assertEqual(cards, kept)

    def test_somewhat_more_than_64_cards_raise_nothing(self):
        self.assertEqual(crest_of(plain(200)), chain_right(plain(200)))


def road_by_words(tree, key):
    met = []
    while tree != ():
        met.append(tree[1][0])
        if key == tree[1][0]:
            break
        tree = tree[0] if key < tree[1][0] else tree[2]
    return met


class Roads(unittest.TestCase):
    tree = ((((), (1, 1, 0), ()), (3, 2, 0), ()), (5, 9, 0), ((), (8, 3, 1), ()))

    def test_road(self):
        self.assertEqual(road(self.tree, 5), [5])
        self.assertEqual(road(self.tree, 1), [5, 3, 1])
        self.assertEqual(road(self.tree, 4), [5, 3])
        self.assertEqual(road(self.tree, 2), [5, 3, 1])
        self.assertEqual(road(self.tree, -1), [5, 3, 1])
        self.assertEqual(road(self.tree, GREATEST + 1), [5, 8])
        self.assertEqual(road((), 5), [])

    def test_holds(self):
        for key in (1, 3, 5, 8):
            self.assertIs(holds(self.tree, key), True)
        for key in (-1, 0, 2, 4, 6, 7, 9, GREATEST + 1, -(10 ** 59)):
            self.assertIs(holds(self.tree, key), False)
        self.assertIs(holds((), 0), False)

    def test_card_and_part(self):
        self.assertEqual(card_at(self.tree, 8), (8, 3, 1))
        self.assertEqual(part_at(self.tree, 3), self.tree[0])
        self.assertEqual(part_at(self.tree, 5), self.tree)

    def test_no_key(self):
        for tree in (self.tree, ()):
            for key in (-1, 0, 2, 9, GREATEST, GREATEST + 1, 10 ** 59, -(10 ** 59)):
                for ask in (card_at, part_at):
                    with self.assertRaises(NoKey) as caught:
                        ask(tree, key)
                    self.assertEqual(caught.exception.key, key)

    def test_samples(self):
        for tree in sample_trees(23) + [with_worths(crest_by_leafing(plain(9)), 10 ** 30)]:
            parts = {row[1][0]: row[:3] for row in nodes(tree)}
            for key in keys_about(tree):
                self.assertEqual(road(tree, key), road_by_words(tree, key))
                self.assertIs(holds(tree, key), key in parts)
                if key in parts:
                    self.assertEqual(part_at(tree, key), parts[key])
                    self.assertEqual(card_at(tree, key), parts[key][1])
                else:
                    self.assertRaises(NoKey, part_at, tree, key)
                    self.assertRaises(NoKey, card_at, tree, key)

    def test_the_list_is_the_askers_own(self):
        told = road(self.tree, 1)
        told.clear()
        self.assertEqual(road(self.tree, 1), [5, 3, 1])


class TopWithin(unittest.TestCase):
    # No crest: the card 1 outranks all, and hangs beneath all.
    tree = ((((), (1, 9, 0), ()), (3, 2, 0), ()), (5, 3, 0), ((), (8, 3, 1), ()))

    def test_told(self):
        self.assertEqual(top_within(self.tree, 0, 9), (1, 9, 0))
        self.assertEqual(top_within(self.tree, 1, 1), (1, 9, 0))
        self.assertEqual(top_within(self.tree, 2, 9), (5, 3, 0))
        self.assertEqual(top_within(self.tree, 3, 4), (3, 2, 0))
        self.assertEqual(top_within(self.tree, 3, 5), (5, 3, 0))
        self.assertEqual(top_within(self.tree, 6, 8), (8, 3, 1))
        self.assertEqual(top_within(self.tree, -(10 ** 59), 10 ** 59), (1, 9, 0))

    def test_none_between(self):
        self.assertIsNone(top_within(self.tree, 6, 7))
        self.assertIsNone(top_within(self.tree, 9, 10 ** 59))
        self.assertIsNone(top_within(self.tree, -9, 0))
        self.assertIsNone(top_within((), 0, 10))

    def test_low_above_high(self):
        self.assertIsNone(top_within(self.tree, 9, 0))
        self.assertIsNone(top_within(self.tree, 5, 4))
        self.assertIsNone(top_within(self.tree, 10 ** 59, -(10 ** 59)))

    def test_samples(self):
        rng = dice(24)
        for tree in sample_trees(25, 20):
            asked = keys_about(tree)
            for _ in range(60):
                low, high = rng.choice(asked), rng.choice(asked)
                within = [card for card in flat(tree) if low <= card[0] <= high]
                told = top_within(tree, low, high)
                if not within:
                    self.assertIsNone(told)
                    continue
                self.assertIn(told, within)
                self.assertTrue(all(card == told or better(told, card) for card in within))


if __name__ == "__main__":
    unittest.main()
