import itertools
import unittest

from crestkeys.cards import is_card, outranks
from crestkeys.chains import leads, to_chain, turns_between, turns_bound
from crestkeys.changes import raised, ranked
from crestkeys.crests import card_at, crest_of, holds, part_at, road, top_within
from crestkeys.errors import NoKey
from crestkeys.links import links, split_links, split_road
from crestkeys.mixed import letters, mixed_in, pure_parts, runs
from crestkeys.packs import by_keys, by_ranks, checked, order_of
from crestkeys.seams import edges, put_in, seam, take_out
from crestkeys.sets import differ, shared, together, without
from crestkeys.splits import cut, joined, split
from crestkeys.trees import cards_in, fault, is_crest, is_tree
from crestkeys.turns import leafed, turned, turned_by
from tests.making import (GREATEST, all_turns, better, crest_by_leafing, dice, flat, frozen, keys_about, nodes,
                          plain, sample_crests, sample_trees, seems_crest, some_cards)


def bare(tree):
    """The tree with the keys and ranks alone."""
    return (bare(tree[0]), tree[1][:2], bare(tree[2])) if tree else ()


class Raised(unittest.TestCase):
    tree = crest_by_leafing([(2, 5, 7), (4, 9, -3), (6, 3, 10), (9, 1, 0)])

    def test_told(self):
        self.assertEqual(flat(raised(self.tree, 4, 6, 5)), [(2, 5, 7), (4, 9, 2), (6, 3, 15), (9, 1, 0)])
        self.assertEqual(flat(raised(self.tree, 5, 99, -5)), [(2, 5, 7), (4, 9, -3), (6, 3, 5), (9, 1, -5)])
        self.assertEqual(raised(self.tree, 6, 4, 5), self.tree)
        self.assertEqual(raised(self.tree, 0, 99, 0), self.tree)
        self.assertEqual(raised((), 0, 9, 5), ())

    def test_samples(self):
        rng = dice(71)
        for tree in sample_trees(72, 25):
            kept = frozen(tree)
            about = keys_about(tree)
            for amount in (1, -1, 0, GREATEST, -3 * GREATEST, 10 ** 59, -(10 ** 59)):
                low, high = rng.choice(about), rng.choice(about)
                told = raised(tree, low, high, amount)
                self.assertEqual(bare(told), bare(tree))
                due = [card[2] + (amount if low <= card[0] <= high else 0) for card in flat(tree)]
                self.assertEqual([card[2] for card in flat(told)], due)
                self.assertEqual(raised(told, low, high, -amount), tree)
            self.assertEqual(frozen(tree), kept)

    def test_worths_at_and_beyond_a_cards_bounds(self):
        one = ((), (5, 1, 0), ())
        for amount, within in ((GREATEST, True), (GREATEST + 1, False), (-GREATEST, True), (-GREATEST - 1, False)):
            told = raised(one, 5, 5, amount)
            self.assertEqual((is_card(told[1]), is_tree(told), is_crest(told)), (within,) * 3)
            self.assertIsNone(fault(told))


class BeyondBounds(unittest.TestCase):
    """Trees with worths beyond a card's bounds are told of as any other ones."""

    def setUp(self):
        rng = dice(73)
        self.crest = crest_by_leafing(some_cards(rng, 15, ranks=6))
        self.other = crest_by_leafing(some_cards(rng, 15, ranks=6))
        self.more = 10 ** 55
        self.wide = self.up(self.crest)

    def up(self, tree):
        return raised(tree, -(10 ** 59), 10 ** 59, self.more)

    def card_up(self, card):
        return card[:2] + (card[2] + self.more,)

    def test_what_is_none(self):
        self.assertFalse(is_tree(self.wide) or is_crest(self.wide) or is_card(self.wide[1]))
        self.assertTrue(is_tree(self.crest) and is_crest(self.crest) and is_card(self.crest[1]))

    def test_cards_and_packs(self):
        pack = flat(self.wide)[::-1]
        self.assertEqual(cards_in(self.wide), pack[::-1])
        self.assertEqual(checked(pack), pack)
        self.assertEqual(by_keys(pack), pack[::-1])
        self.assertEqual(by_ranks(pack), sorted(pack, key=lambda card: (-card[1], card[0])))
        self.assertEqual(order_of(pack), order_of(flat(self.crest)))
        self.assertEqual(crest_of(pack), self.wide)
        self.assertTrue(outranks(self.wide[1], pack[0]))

    def test_branchings(self):
        self.assertIsNone(fault(self.wide))
        self.assertEqual(fault((self.wide, self.wide[1], ())), ("keys", 15))
        self.assertEqual(cards_in((self.wide, self.wide[1], ())), flat(self.wide) + [self.wide[1]])

    def test_roads_and_turns(self):
        for key in [card[0] for card in flat(self.crest)] + [-1]:
            self.assertEqual(road(self.wide, key), road(self.crest, key))
            self.assertEqual(split_road(self.wide, key), split_road(self.crest, key))
            self.assertEqual(split_links(self.wide, key), split_links(self.crest, key))
            self.assertEqual(split(self.wide, key), tuple(self.up(part) for part in split(self.crest, key)))
            self.assertEqual(joined(*split(self.wide, key)), self.wide)
            self.assertEqual(cut(self.wide, key, key + 5), tuple(self.up(part) for part in cut(self.crest, key, key + 5)))
            self.assertEqual(holds(self.wide, key), key != -1)
        for key, tree in all_turns(self.crest):
            self.assertEqual(turned(self.wide, key), self.up(tree))
            self.assertEqual(turned_by(self.wide, [key]), self.up(tree))
            self.assertEqual(turns_bound(self.wide, self.up(tree)), 1)
            row = turns_between(self.wide, self.up(tree))
            self.assertEqual(row, turns_between(self.crest, tree))
            self.assertTrue(leads(self.wide, row, self.up(tree)))
        self.assertEqual(to_chain(self.wide), to_chain(self.crest))
        self.assertEqual((links(self.wide), edges(self.wide)), (links(self.crest), edges(self.crest)))

    def test_cards_of_it(self):
        for card in flat(self.crest):
            wide = self.card_up(card)
            self.assertEqual(card_at(self.wide, card[0]), wide)
            self.assertEqual(part_at(self.wide, card[0]), self.up(part_at(self.crest, card[0])))
            self.assertEqual(top_within(self.wide, card[0], card[0]), wide)
            self.assertEqual(seam(self.wide, card[0]), seam(self.crest, card[0]))
            less, row = take_out(self.wide, card[0])
            self.assertEqual((less, row), (self.up(take_out(self.crest, card[0])[0]), take_out(self.crest, card[0])[1]))
            self.assertEqual(put_in(less, wide)[0], self.wide)
            self.assertEqual(cards_in(leafed(less, wide)), flat(self.wide))
            for rank in (0, 3, 99):
                crest, row = ranked(self.crest, card[0], rank)
                self.assertEqual(ranked(self.wide, card[0], rank), (self.up(crest), row))

    def test_two_of_them(self):
        other = self.up(self.other)
        for one, two in ((self.wide, other), (self.wide, self.other), (self.crest, other)):
            self.assertEqual(bare(together(one, two)), bare(together(self.crest, self.other)))
            self.assertEqual(bare(shared(one, two)), bare(shared(self.crest, self.other)))
            self.assertEqual(bare(without(one, two)), bare(without(self.crest, self.other)))
            for ask in (letters, runs, mixed_in, pure_parts):
                self.assertEqual(ask(one, two), ask(self.crest, self.other))
        self.assertEqual(differ(self.wide, self.crest), [card[0] for card in flat(self.crest)])
        self.assertEqual(differ(self.wide, other), differ(self.crest, self.other))


def with_rank(tree, key, rank):
    left, card, right = tree
    if card[0] == key:
        return (left, (key, rank, card[2]), right)
    if key < card[0]:
        return (with_rank(left, key, rank), card, right)
    return (left, card, with_rank(right, key, rank))


def plain_ranked(crest, key, rank):
    """Turn by turn, as the document says it, with the turns of the tests' own."""
    tree, row = with_rank(crest, key, rank), []
    while True:
        at = turn_of(tree, key, bool(row) and row[-1] != key)
        if at is None:
            return tree, row
        row.append(at)
        tree = dict(all_turns(tree))[at]


def turn_of(tree, key, only_down):
    left, card, right, upper = [node for node in nodes(tree) if node[1][0] == key][0]
    if upper and better(card, upper) and not only_down:
        return key
    beneath = [side[1] for side in (left, right) if side and better(side[1], card)]
    if not beneath:
        return None
    return min(beneath, key=lambda one: (-one[1], one[0]))[0]


def keys_beneath(tree):
    return {node[1][0]: [card[0] for card in flat(node[:3])] for node in nodes(tree)}


class Ranked(unittest.TestCase):
    crest = crest_by_leafing([(2, 5, 7), (4, 9, -3), (6, 3, 10), (9, 1, 0)])

    def held(self, crest, key, rank):
        kept = frozen(crest)
        told = ranked(crest, key, rank)
        after, row = told
        self.assertEqual([type(told), type(row)], [tuple, list])
        self.assertEqual(after, crest_by_leafing(flat(with_rank(crest, key, rank))))
        self.assertTrue(seems_crest(after))
        self.assertEqual((after, row), plain_ranked(crest, key, rank))
        self.assertEqual(turned_by(with_rank(crest, key, rank), row), after)
        old, new = keys_beneath(crest), keys_beneath(after)
        unlike = [one for one in old if old[one] != new[one]]
        self.assertEqual(len(unlike), len(row) + 1 if row else 0)
        self.assertEqual(frozen(crest), kept)

    def test_told(self):
        self.assertEqual(ranked(self.crest, 9, 4), (crest_by_leafing([(2, 5, 7), (4, 9, -3), (6, 3, 10), (9, 4, 0)]), [9]))
        self.assertEqual(ranked(self.crest, 9, 10)[1], [9, 9])
        self.assertEqual(ranked(self.crest, 4, 4)[1], [2])
        self.assertEqual(ranked(self.crest, 4, 2)[1], [2, 6])
        self.assertEqual(ranked(self.crest, 4, 0)[1], [2, 6])
        self.assertEqual(ranked(self.crest, 6, 0)[1], [9])
        self.assertEqual(ranked(self.crest, 4, 9), (self.crest, []))
        self.assertEqual(ranked(((), (5, 1, 2), ()), 5, 8), (((), (5, 8, 2), ()), []))

    def test_like_ranks(self):
        # 2 outranks 4 where their ranks are alike, and 4 outranks 6.
        self.assertEqual(ranked(self.crest, 2, 9)[1], [2])
        self.assertEqual(ranked(self.crest, 6, 9)[1], [])
        self.assertEqual(ranked(self.crest, 4, 5)[1], [2])
        self.assertEqual(ranked(self.crest, 4, 3)[1], [2])
        crest = crest_by_leafing([(2, 5, 0), (4, 9, 0), (6, 5, 0)])
        self.assertEqual(ranked(crest, 4, 1)[1], [2, 6])

    def test_all_small(self):
        for many in range(1, 5):
            for ranks in itertools.product((1, 3, 5), repeat=many):
                crest = crest_by_leafing([(key, rank, key) for key, rank in enumerate(ranks)])
                for key in range(many):
                    for rank in range(7):
                        self.held(crest, key, rank)

    def test_samples(self):
        rng = dice(74)
        for crest in sample_crests(75, 30):
            cards = flat(crest)
            for card in rng.sample(cards, min(6, len(cards))):
                for rank in (0, card[1], rng.randint(0, 60), GREATEST):
                    self.held(crest, card[0], rank)

    def test_edges_of_64_cards(self):
        crest = crest_by_leafing(plain(64))
        self.assertEqual(ranked(crest, 63, 99)[1], [63] * 63)
        self.held(crest, 63, 99)
        # All others are on the seam of 32.
        crest = crest_by_leafing([(key, max(key, 64 - key), 0) for key in range(64) if key != 32] + [(32, 99, 0)])
        self.assertEqual(len(ranked(crest, 32, 0)[1]), 63)
        self.held(crest, 32, 0)
        alike = crest_by_leafing([(key, 7, 0) for key in range(64)])
        self.assertEqual(ranked(alike, 30, 7), (alike, []))

    def test_no_key(self):
        for crest in ((), self.crest, crest_by_leafing(plain(64))):
            for key in (-1, 5, 99, 10 ** 59, -(10 ** 59)):
                if key in [card[0] for card in flat(crest)]:
                    continue
                kept = frozen(crest)
                with self.assertRaises(NoKey) as caught:
                    ranked(crest, key, 3)
                self.assertEqual(caught.exception.key, key)
                self.assertEqual(frozen(crest), kept)

    def test_the_row_is_the_askers_own(self):
        for rank in (0, 9):
            told = ranked(self.crest, 4, rank)
            kept = frozen(told)
            told[1].append(None)
            self.assertEqual(frozen(ranked(self.crest, 4, rank)), kept)


if __name__ == "__main__":
    unittest.main()
