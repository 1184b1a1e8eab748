import itertools
import math
import unittest
from fractions import Fraction

from crestkeys.errors import NoHistory
from crestkeys.shares import above_share, mean_depth, mean_seam, mean_turns, part_share, part_sizes, seam_share
from tests.making import (all_orders, crest_by_leafing, dice, flat, frozen, left_edge, lengths, nodes, plain_fraction,
                          plain_states, right_edge, some_history, tree_by)

LOOK = ("look",)


def beneath(part):
    """The places of all cards beneath the part's top."""
    return {card[0] for side in (part[0], part[2]) for card in flat(side)}


def trees_of(n):
    """For each order of n cards a dict from each place to its part."""
    return [{node[1][0]: node for node in nodes(tree_by(order))} for order in all_orders(n)]


def share_of(trees, is_so):
    return plain_fraction(Fraction(len([tree for tree in trees if is_so(tree)]), len(trees)))


def mean_of(trees, number):
    return plain_fraction(Fraction(sum(number(tree) for tree in trees), len(trees)))


def seam_places(node):
    return [card[0] for card in right_edge(node[0]) + left_edge(node[2])]


class HeldAgainstAllOrders(unittest.TestCase):
    def test_above(self):
        for n in range(1, 7):
            trees = trees_of(n)
            for i in range(n):
                others = [place for place in range(n) if place != i]
                for many in range(n):
                    for some in itertools.combinations(others, many):
                        due = share_of(trees, lambda tree: set(some) <= beneath(tree[i]))
                        for told in (some, some[::-1], list(some)):
                            kept = frozen(told)
                            self.assertEqual(above_share(n, i, told), due)
                            self.assertEqual(frozen(told), kept)

    def test_parts(self):
        for n in range(1, 7):
            trees = trees_of(n)
            for low in range(n):
                for high in range(low, n):
                    places = set(range(low, high + 1))
                    due = share_of(trees, lambda tree: any(beneath(node) | {top} == places
                                                           for top, node in tree.items()))
                    self.assertEqual(part_share(n, low, high), due)

    def test_sizes(self):
        for n in range(1, 7):
            trees = trees_of(n)
            for i in range(n):
                due = [share_of(trees, lambda tree: len(beneath(tree[i])) + 1 == many) for many in range(1, n + 1)]
                told = part_sizes(n, i)
                self.assertEqual(told, due)
                self.assertIs(type(told), list)
                told.append(None)
                self.assertEqual(part_sizes(n, i), due)

    def test_seams(self):
        for n in range(1, 7):
            trees = trees_of(n)
            for i in range(n):
                for j in range(n):
                    self.assertEqual(seam_share(n, i, j), share_of(trees, lambda tree: j in seam_places(tree[i])))
                self.assertEqual(mean_seam(n, i), mean_of(trees, lambda tree: len(seam_places(tree[i]))))

    def test_depths(self):
        for n in range(1, 7):
            trees = trees_of(n)
            for i in range(n):
                due = mean_of(trees, lambda tree: len([top for top in tree if i in beneath(tree[top])]))
                self.assertEqual(mean_depth(n, i), due)


class OneAndTwentyFour(unittest.TestCase):
    def test_one(self):
        self.assertEqual(above_share(1, 0, []), (1, 1))
        self.assertEqual(part_share(1, 0, 0), (1, 1))
        self.assertEqual(part_sizes(1, 0), [(1, 1)])
        self.assertEqual(mean_depth(1, 0), (0, 1))
        self.assertEqual(mean_seam(1, 0), (0, 1))

    def test_told_of_twenty_four(self):
        self.assertEqual(above_share(24, 5, [9, 2, 7]), (1, 8))
        self.assertEqual(above_share(24, 0, list(range(1, 24))), (1, 24))
        self.assertEqual(above_share(24, 12, ()), (1, 1))
        self.assertEqual(part_share(24, 0, 23), (1, 1))
        self.assertEqual((part_share(24, 0, 3), part_share(24, 20, 23)), ((1, 5), (1, 5)))
        self.assertEqual(part_share(24, 3, 6), (1, 15))
        self.assertEqual(part_share(24, 3, 5), (1, 10))
        self.assertEqual(seam_share(24, 3, 23), (1, 420))
        self.assertEqual(mean_seam(24, 0), (23, 24))
        self.assertEqual(mean_seam(24, 23), (23, 24))
        self.assertEqual(mean_seam(24, 1), (67, 46))

    def test_sums(self):
        for n in (1, 2, 7, 23, 24):
            for i in range(n):
                sizes = [Fraction(*share) for share in part_sizes(n, i)]
                self.assertEqual(sum(sizes), 1)
                mean = sum(many * share for many, share in enumerate(sizes, 1))
                self.assertEqual(mean, Fraction(*mean_depth(n, i)) + 1)
                self.assertEqual(Fraction(*mean_depth(n, i)),
                                 sum(Fraction(*above_share(n, j, [i])) for j in range(n) if j != i))
                self.assertEqual(Fraction(*mean_seam(n, i)),
                                 sum(Fraction(*seam_share(n, i, j)) for j in range(n) if j != i))

    def test_no_common_divisor(self):
        for n in (1, 2, 6, 13, 24):
            told = [share for i in range(n) for share in part_sizes(n, i) + [mean_depth(n, i), mean_seam(n, i)]]
            told += [part_share(n, low, high) for low in range(n) for high in range(low, n)]
            told += [seam_share(n, i, j) for i in range(n) for j in range(n) if i != j]
            for share in told:
                self.assertEqual(share, plain_fraction(Fraction(*share)))
                self.assertEqual([type(part) for part in share], [int, int])
        self.assertEqual((mean_depth(1, 0), mean_seam(1, 0), mean_turns([])), ((0, 1),) * 3)


def turns_plainly(history):
    """By all deals of one item to each key: the lengths of the seams in the crests themselves."""
    keys = sorted({deed[1] for deed in history if deed != LOOK})
    states = [set(state) for state in plain_states(history, "kept")]
    total = 0
    for order in all_orders(len(keys)):
        ranks = dict(zip(keys, order))
        for at, deed in enumerate(history):
            if deed != LOOK:
                stands = states[at] | {deed[1]}
                total += lengths(crest_by_leafing([(key, ranks[key], 0) for key in stands]))[deed[1]]
    return Fraction(total, math.factorial(len(keys)))


class MeanTurns(unittest.TestCase):
    def test_told(self):
        self.assertEqual(mean_turns([]), (0, 1))
        self.assertEqual(mean_turns([LOOK, ("put", 5), LOOK]), (0, 1))
        self.assertEqual(mean_turns([("put", 5), ("put", 3)]), (1, 2))
        self.assertEqual(mean_turns([("put", 5), LOOK, ("put", 3), ("take", 3), LOOK, ("take", 5)]), (1, 1))
        self.assertEqual(mean_turns([("put", 1), ("put", 3), ("put", 2)]), (3, 2))

    def test_held_against_all_deals(self):
        rng = dice(141)
        for _ in range(60):
            history = some_history(rng, rng.randint(0, 14), [0, 4, -5, 10 ** 59, 7][:rng.randint(1, 5)])
            kept = frozen(history)
            due = plain_fraction(turns_plainly(history))
            self.assertEqual(mean_turns(history), due)
            self.assertEqual(mean_turns(tuple(history)), due)
            self.assertEqual(mean_turns([deed for deed in history if deed != LOOK]), due)
            self.assertEqual(frozen(history), kept)

    def test_twenty_four_keys(self):
        history = [("put", key) for key in range(24)] + [LOOK]
        due = sum(1 - Fraction(1, many) for many in range(1, 25))
        self.assertEqual(mean_turns(history), plain_fraction(due))
        history = history[:24] + [("take", key) for key in range(12, 0, -1)] + [LOOK] * 4
        due += sum(2 - Fraction(1, key + 1) - Fraction(1, 12) for key in range(12, 0, -1))
        self.assertEqual(mean_turns(history), plain_fraction(due))

    def test_no_history(self):
        for history, at in (([("take", 1)], 0), ([LOOK, ("put", 1), LOOK, ("put", 1)], 3),
                            ([("put", 1), ("take", 1), ("take", 1)], 2), ([LOOK, ("take", 3), ("take", 4)], 1)):
            for told in (history, tuple(history)):
                with self.assertRaises(NoHistory) as caught:
                    mean_turns(told)
                self.assertEqual(caught.exception.at, at)


if __name__ == "__main__":
    unittest.main()
