import itertools
import unittest

from crestkeys.crests import crest_of
from crestkeys.errors import NoKey, TooMany, Twice
from crestkeys.packs import pack_of
from crestkeys.seams import edges, put_in, seam, take_out
from crestkeys.turns import leafed, turned, turned_by
from tests.making import (GREATEST, all_trees, all_turns, chain_left, chain_right, crest_by_leafing, dice, fewest_turns,
                          flat, frozen, keys_about, left_edge, lengths, nodes, plain, right_edge, rising,
                          sample_crests, sample_trees, seems_crest, some_cards, with_worths, zigzag)


def keys(cards):
    return [card[0] for card in cards]


class Seams(unittest.TestCase):
    # 6 stands above 2 (above 1, 4 (above 3, 5)) and 9 (above 7 (above 8)).
    tree = ((((), (1, 0, 0), ()), (2, 0, 0), (((), (3, 0, 0), ()), (4, 0, 0), ((), (5, 0, 0), ()))),
            (6, 0, 0), (((), (7, 0, 0), ((), (8, 0, 0), ())), (9, 0, 0), ()))

    def test_told(self):
        self.assertEqual(seam(self.tree, 6), ([2, 4, 5], [9, 7]))
        self.assertEqual(seam(self.tree, 2), ([1], [4, 3]))
        self.assertEqual(seam(self.tree, 9), ([7, 8], []))
        self.assertEqual(seam(self.tree, 7), ([], [8]))
        self.assertEqual(seam(self.tree, 5), ([], []))
        self.assertEqual(edges(self.tree), ([6, 2, 1], [6, 9]))
        self.assertEqual(edges(()), ([], []))
        self.assertEqual(edges(((), (5, 0, 0), ())), ([5], [5]))

    def test_chains(self):
        for many in (1, 2, 64):
            left, right = chain_left(plain(many)), chain_right(plain(many))
            self.assertEqual(edges(left), (list(range(many - 1, -1, -1)), [many - 1]))
            self.assertEqual(edges(right), ([0], list(range(many))))
            self.assertEqual(seam(left, 0), ([], []))
            for key in range(1, many):
                self.assertEqual(seam(left, key), ([key - 1], []))
            for key in range(many - 1):
                self.assertEqual(seam(right, key), ([], [key + 1]))

    def test_no_key(self):
        for tree in ((), self.tree):
            for key in (-1, 0, 10, GREATEST + 1, 10 ** 59, -(10 ** 59)):
                with self.assertRaises(NoKey) as caught:
                    seam(tree, key)
                self.assertEqual(caught.exception.key, key)

    def test_samples(self):
        for tree in sample_trees(40) + [with_worths(self.tree, 10 ** 40)]:
            kept = frozen(tree)
            self.assertEqual(edges(tree), (keys(left_edge(tree)), keys(right_edge(tree))))
            for left, card, right, _ in nodes(tree):
                told = seam(tree, card[0])
                self.assertEqual(told, (keys(right_edge(left)), keys(left_edge(right))))
                self.assertEqual([type(told), type(told[0]), type(told[1])], [tuple, list, list])
            self.assertEqual(frozen(tree), kept)

    def test_all_lengths_come_to_twice_the_cards(self):
        for tree in sample_trees(41):
            cards = flat(tree)
            total = sum(len(row) for row in edges(tree))
            total += sum(len(row) for card in cards for row in seam(tree, card[0]))
            self.assertEqual(total, 2 * len(cards))

    def test_what_one_turn_changes(self):
        for tree in sample_trees(42, 20):
            before = told_lengths(tree)
            self.assertEqual(before, lengths(tree))
            for key, _ in all_turns(tree):
                after = told_lengths(turned(tree, key))
                self.assertEqual(after[key], before[key] + 1)
                self.assertTrue(all(abs(after[name] - before[name]) <= 1 for name in before))

    def test_the_lists_are_the_askers_own(self):
        for ask in (lambda: seam(self.tree, 6), lambda: edges(self.tree), lambda: edges(())):
            told = ask()
            kept = frozen(told)
            told[0].append(None)
            told[1].clear()
            self.assertEqual(frozen(ask()), kept)


def told_lengths(tree):
    found = {card[0]: sum(map(len, seam(tree, card[0]))) for card in flat(tree)}
    left, right = edges(tree)
    return {**found, "left": len(left), "right": len(right)}


class PutIn(unittest.TestCase):
    def test_told(self):
        self.assertEqual(put_in((), (5, 6, 7)), (((), (5, 6, 7), ()), []))
        crest = crest_by_leafing([(2, 5, 0), (6, 3, 0)])
        self.assertEqual(put_in(crest, (4, 1, 0)), (crest_by_leafing([(2, 5, 0), (6, 3, 0), (4, 1, 0)]), []))
        self.assertEqual(put_in(crest, (4, 4, 0)), (((), (2, 5, 0), ((), (4, 4, 0), ((), (6, 3, 0), ()))), [4]))
        self.assertEqual(put_in(crest, (4, 9, 0)),
                         ((((), (2, 5, 0), ()), (4, 9, 0), ((), (6, 3, 0), ())), [4, 4]))

    def test_like_ranks(self):
        crest = ((), (5, 7, 0), ())
        self.assertEqual(put_in(crest, (4, 7, 0)), (((), (4, 7, 0), ((), (5, 7, 0), ())), [4]))
        self.assertEqual(put_in(crest, (6, 7, 0)), (((), (5, 7, 0), ((), (6, 7, 0), ())), []))

    def test_samples(self):
        rng = dice(43)
        for crest in sample_crests(44):
            cards = flat(crest)
            if len(cards) >= 64:
                continue
            kept = frozen(crest)
            free = [key for key in keys_about(crest) if 0 <= key <= GREATEST and key not in keys(cards)]
            for key in free:
                rank = rng.choice([0, 1, 2, 3, 5, 10, 50, GREATEST])
                told = put_in(crest, (key, rank, 1))
                after, row = told
                self.assertEqual([type(told), type(row)], [tuple, list])
                self.assertEqual(after, crest_by_leafing(cards + [(key, rank, 1)]))
                self.assertEqual(row, [key] * lengths(after)[key])
                self.assertEqual(turned_by(leafed(crest, (key, rank, 1)), row), after)
            self.assertEqual(frozen(crest), kept)

    def test_card_by_card_in_any_order_it_is_the_crest(self):
        cards = [(0, 2, 0), (1, 5, 0), (2, 2, 0), (3, 2, 0), (4, 9, 0)]
        for row in itertools.permutations(cards):
            crest = ()
            for card in row:
                crest = put_in(crest, card)[0]
            self.assertEqual(crest, crest_of(cards))

    def test_refusals(self):
        for many in (1, 5, 63, 64, 65):
            crest = crest_by_leafing([(2 * key, key % 7, 0) for key in range(many)])
            kept = frozen(crest)
            with self.assertRaises(Twice) as caught:
                put_in(crest, (0, 99, 9))
            self.assertEqual(caught.exception.key, 0)
            if many >= 64:
                for key in (1, 63, 999):
                    with self.assertRaises(TooMany) as caught:
                        put_in(crest, (key, 99, 9))
                    self.assertEqual(caught.exception.most, 64)
            else:
                self.assertTrue(seems_crest(put_in(crest, (1, 3, 9))[0]))
            self.assertEqual(frozen(crest), kept)

    def test_worths_beyond_bounds(self):
        crest = with_worths(crest_by_leafing(plain(6)), 10 ** 40)
        card = (9, 4, -(10 ** 40))
        after, row = put_in(crest, card)
        self.assertEqual(after, crest_by_leafing(flat(crest) + [card]))
        self.assertEqual(take_out(after, 9), (crest, row_out(after, 9)))


def row_out(crest, key):
    """The keys of the seam in the row in which they outrank each other."""
    (left, right), cards = seam(crest, key), {card[0]: card for card in flat(crest)}
    return sorted(left + right, key=lambda one: (-cards[one][1], one))


class TakeOut(unittest.TestCase):
    def test_told(self):
        self.assertEqual(take_out(((), (5, 6, 7), ()), 5), ((), []))
        crest = crest_by_leafing([(2, 5, 0), (4, 9, 0), (6, 3, 0)])
        self.assertEqual(take_out(crest, 4), (((), (2, 5, 0), ((), (6, 3, 0), ())), [2, 6]))
        self.assertEqual(take_out(crest, 6), ((((), (2, 5, 0), ()), (4, 9, 0), ()), []))

    def test_like_ranks(self):
        crest = crest_by_leafing([(2, 5, 0), (4, 9, 0), (6, 5, 0)])
        self.assertEqual(take_out(crest, 4), (((), (2, 5, 0), ((), (6, 5, 0), ())), [2, 6]))
        crest = crest_by_leafing([(key, 5, 0) for key in range(64)])
        self.assertEqual(take_out(crest, 0), (crest[2], [1]))

    def test_samples(self):
        for crest in sample_crests(45):
            kept = frozen(crest)
            cards = flat(crest)
            for card in cards:
                told = take_out(crest, card[0])
                after, row = told
                self.assertEqual([type(told), type(row)], [tuple, list])
                self.assertEqual(after, crest_by_leafing([other for other in cards if other != card]))
                self.assertEqual(len(row), lengths(crest)[card[0]])
                self.assertEqual(row, row_out(crest, card[0]))
                self.assertEqual(turned_by(crest, row), leafed(after, card))
                self.assertEqual(put_in(after, card)[0], crest)
            self.assertEqual(frozen(crest), kept)

    def test_no_key(self):
        for crest in ((), crest_by_leafing(plain(64))):
            for key in (-1, 64, GREATEST, GREATEST + 1, 10 ** 59, -(10 ** 59)):
                with self.assertRaises(NoKey) as caught:
                    take_out(crest, key)
                self.assertEqual(caught.exception.key, key)

    def test_no_fewer_turns_do(self):
        for many in range(1, 6):
            for order in itertools.permutations(range(many)):
                pack = pack_of(order, range(many))
                crest = crest_of(pack)
                far = fewest_turns(crest)
                for card in pack:
                    fewest = min(far[tree] for tree in far if is_leaf(tree, card))
                    self.assertEqual(len(take_out(crest, card[0])[1]), fewest)
                    without = crest_of([other for other in pack if other != card])
                    self.assertEqual(len(put_in(without, card)[1]), fewest)

    def test_all_trees_are_reached_by_turns(self):
        self.assertEqual(set(fewest_turns(zigzag(plain(5)))), set(all_trees(rising(plain(5)))))

    def test_the_row_is_the_askers_own(self):
        crest = crest_by_leafing(some_cards(dice(46), 20))
        key = crest[1][0]
        for ask in (lambda: take_out(crest, key), lambda: put_in(crest, (999, GREATEST, 0))):
            told = ask()
            kept = frozen(told)
            told[1].append(None)
            self.assertEqual(frozen(ask()), kept)


def is_leaf(tree, card):
    return ((), card, ()) in [row[:3] for row in nodes(tree)]


if __name__ == "__main__":
    unittest.main()
