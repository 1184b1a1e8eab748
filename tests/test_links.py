import itertools
import unittest

from crestkeys.crests import crest_of
from crestkeys.links import links, split_links, split_road
from crestkeys.packs import pack_of
from crestkeys.seams import put_in
from crestkeys.splits import split
from tests.making import (GREATEST, chain_left, chain_right, crest_by_leafing, flat, frozen, keys_about, nodes, plain,
                          sample_crests, sample_trees, with_worths)


def links_by_words(tree):
    return sorted((upper[0], card[0]) for _, card, _, upper in nodes(tree) if upper)


def road_by_words(crest, key):
    met, own = [], False
    while crest != ():
        here = crest[1][0]
        met.append((here, "less" if here < key else "rest"))
        # Behind the key's own card the road goes always to the right.
        crest = crest[2] if own or key > here else crest[0]
        own = own or key == here
    return met


class Links(unittest.TestCase):
    def test_told(self):
        self.assertEqual(links(()), [])
        self.assertEqual(links(((), (5, 0, 0), ())), [])
        tree = ((((), (1, 0, 0), ()), (2, 0, 0), ((), (3, 0, 0), ())), (6, 0, 0), ((), (9, 0, 0), ()))
        self.assertEqual(links(tree), [(2, 1), (2, 3), (6, 2), (6, 9)])

    def test_chains(self):
        self.assertEqual(links(chain_right(plain(64))), [(key, key + 1) for key in range(63)])
        self.assertEqual(links(chain_left(plain(64))), [(key + 1, key) for key in range(63)])

    def test_samples(self):
        for tree in sample_trees(70) + [with_worths(chain_left(plain(9)), 10 ** 40)]:
            kept = frozen(tree)
            told = links(tree)
            self.assertEqual(told, links_by_words(tree))
            self.assertEqual(len(told), max(0, len(flat(tree)) - 1))
            self.assertTrue(all(type(link) is tuple for link in told))
            self.assertEqual(frozen(tree), kept)


class SplitRoad(unittest.TestCase):
    crest = crest_by_leafing([(1, 1, 0), (3, 7, 0), (4, 3, 0), (5, 9, 0), (8, 5, 0), (9, 2, 0)])

    def test_told(self):
        self.assertEqual(split_road((), 5), [])
        self.assertEqual(split_road(self.crest, 4), [(5, "rest"), (3, "less"), (4, "rest")])
        self.assertEqual(split_road(self.crest, 2), [(5, "rest"), (3, "rest"), (1, "less")])
        self.assertEqual(split_road(self.crest, 10), [(5, "less"), (8, "less"), (9, "less")])

    def test_at_a_key_that_is_there(self):
        self.assertEqual(split_road(self.crest, 5), [(5, "rest"), (3, "less"), (4, "less")])
        self.assertEqual(split_road(self.crest, 3), [(5, "rest"), (3, "rest"), (1, "less")])
        self.assertEqual(split_road(self.crest, 1), [(5, "rest"), (3, "rest"), (1, "rest")])

    def test_samples(self):
        for crest in sample_crests(71) + [with_worths(crest_by_leafing(plain(9)), 10 ** 40)]:
            kept = frozen(crest)
            for key in keys_about(crest):
                told = split_road(crest, key)
                self.assertIsInstance(told, list)
                self.assertEqual(told, road_by_words(crest, key))
                less, rest = [{card[0] for card in flat(part)} for part in split(crest, key)]
                for met, word in told:
                    self.assertIn(met, less if word == "less" else rest)
            self.assertEqual(frozen(crest), kept)

    def test_parts_beside_the_road_stand_as_they_were(self):
        for crest in sample_crests(72, 30):
            for key in keys_about(crest):
                met = {one for one, _ in split_road(crest, key)}
                there = [row[:3] for part in split(crest, key) for row in nodes(part)]
                for left, card, right, _ in nodes(crest):
                    if card[0] not in met:
                        self.assertIn((left, card, right), there)


class SplitLinks(unittest.TestCase):
    def test_told(self):
        self.assertEqual(split_links((), 5), ([], []))
        crest = SplitRoad.crest
        self.assertEqual(split_links(crest, 4), ([(3, 4), (5, 3)], [(5, 4)]))
        self.assertEqual(split_links(crest, 5), ([(5, 3)], []))
        self.assertEqual(split_links(crest, 0), ([], []))
        self.assertEqual(split_links(crest, GREATEST + 1), ([], []))

    def test_samples(self):
        for crest in sample_crests(73) + [with_worths(crest_by_leafing(plain(9)), 10 ** 40)]:
            kept = frozen(crest)
            for key in keys_about(crest):
                old = set(links_by_words(crest))
                new = {link for part in split(crest, key) for link in links_by_words(part)}
                told = split_links(crest, key)
                self.assertEqual(told, (sorted(old - new), sorted(new - old)))
                self.assertEqual([type(told), type(told[0]), type(told[1])], [tuple, list, list])
            self.assertEqual(frozen(crest), kept)

    def test_as_many_as_the_road_changes_sides(self):
        most = 0
        for crest in sample_crests(74):
            for key in keys_about(crest):
                words = [word for _, word in split_road(crest, key)]
                changes = sum(one != other for one, other in itertools.pairwise(words))
                going, coming = split_links(crest, key)
                self.assertEqual((len(going), len(coming)), (changes, max(0, changes - 1)))
                most = max(most, changes)
        self.assertGreater(most, 2)


class PutInAboveAll(unittest.TestCase):
    def test_samples(self):
        for crest in sample_crests(75):
            cards = flat(crest)
            if len(cards) >= 64:
                continue
            rank = max([card[1] for card in cards], default=0) + 1
            for key in keys_about(crest):
                if 0 <= key <= GREATEST and key not in [card[0] for card in cards]:
                    (left, card, right), row = put_in(crest, (key, rank, 0))
                    self.assertEqual(card, (key, rank, 0))
                    self.assertEqual((left, right), split(crest, key))
                    self.assertEqual(len(row), len(split_road(crest, key)))

    def test_all_of_four_cards(self):
        for order in itertools.permutations(range(4)):
            crest = crest_of(pack_of(order, (1, 3, 5, 7)))
            for key in (0, 2, 4, 6, 8):
                (left, _, right), row = put_in(crest, (key, GREATEST, 0))
                self.assertEqual((left, right), split(crest, key))
                self.assertEqual(len(row), len(split_road(crest, key)))


class Own(unittest.TestCase):
    def test_the_lists_are_the_askers_own(self):
        crest = SplitRoad.crest
        for ask in (lambda: links(crest), lambda: split_road(crest, 4)):
            told = ask()
            kept = frozen(told)
            told.pop()
            self.assertEqual(frozen(ask()), kept)
        told = split_links(crest, 4)
        kept = frozen(told)
        told[0].clear()
        told[1].append(None)
        self.assertEqual(frozen(split_links(crest, 4)), kept)


if __name__ == "__main__":
    unittest.main()
