import unittest

from crestkeys.reaching import reach_road, reached, richest, tiles
from tests.making import (GREATEST, all_trees, chain_left, chain_right, dice, flat, frozen, keys_about, nodes,
                          plain, sample_trees, with_worths, zigzag)


def of_worths(worths):
    """A tree with the worths, from the left; its keys are 10, 20 and so on."""
    return zigzag([(10 * at + 10, 0, worth) for at, worth in enumerate(worths)])


def plain_reached(tree, amount):
    worths = [card[2] for card in flat(tree)]
    for many in range(len(worths) + 1):
        if sum(worths[:many]) >= amount:
            return many
    return None


def plain_reach_road(tree, amount):
    """The road to the k-th card, each step told by where that card lies."""
    many = plain_reached(tree, amount)
    if amount <= 0 or many is None:
        return None
    key = flat(tree)[many - 1][0]
    steps = []
    while tree[1][0] != key:
        word = "left" if key < tree[1][0] else "right"
        steps.append((tree[1][0], word))
        tree = tree[0] if word == "left" else tree[2]
    return steps + [(key, "here")]


def amounts_about(tree):
    worths = [card[2] for card in flat(tree)]
    totals = {sum(worths[:many]) for many in range(len(worths) + 1)}
    return sorted({total + more for total in totals for more in (-1, 0, 1)} | {0, 1, -1, 10 ** 59, -(10 ** 59)})


class Reached(unittest.TestCase):
    def test_told(self):
        tree = of_worths([3, -2, 4, 1, -9, 20])
        self.assertEqual([reached(tree, amount) for amount in (-5, 0, 1, 3, 4, 5, 6, 7, 17)],
                         [0, 0, 1, 1, 3, 3, 4, 6, 6])
        self.assertIsNone(reached(tree, 18))
        self.assertEqual(reached((), 0), 0)
        self.assertEqual(reached((), -1), 0)
        self.assertIsNone(reached((), 1))

    def test_amounts_not_above_nought(self):
        for tree in [()] + sample_trees(65, 5):
            for amount in (0, -1, -(10 ** 59)):
                told = reached(tree, amount)
                self.assertEqual(told, 0)
                self.assertIs(type(told), int)
                self.assertIsNone(reach_road(tree, amount))

    def test_worths_below_nought_on_the_way(self):
        tree = of_worths([-5, -5, 11, -1, 3])
        self.assertEqual(reached(tree, 1), 3)
        self.assertEqual(reached(tree, 2), 5)
        self.assertIsNone(reached(tree, 4))
        self.assertIsNone(reached(of_worths([-1] * 9), 1))

    def test_samples(self):
        wide = [with_worths(of_worths([1] * 9), 10 ** 40)]
        for tree in sample_trees(66, 25) + wide:
            kept = frozen(tree)
            for amount in amounts_about(tree):
                self.assertEqual(reached(tree, amount), plain_reached(tree, amount))
                told = reach_road(tree, amount)
                self.assertEqual(told, plain_reach_road(tree, amount))
                self.assertIn(type(told), (list, type(None)))
            self.assertEqual(frozen(tree), kept)


class ReachRoad(unittest.TestCase):
    tree = ((((), (1, 0, 4), ()), (2, 0, -9), ((), (3, 0, 5), ())), (4, 0, 1), ((), (6, 0, 8), ((), (8, 0, -2), ())))

    def test_told(self):
        self.assertEqual(reach_road(self.tree, 1), [(4, "left"), (2, "left"), (1, "here")])
        self.assertEqual(reach_road(self.tree, 4), [(4, "left"), (2, "left"), (1, "here")])
        self.assertEqual(reach_road(self.tree, 5), [(4, "right"), (6, "here")])
        self.assertEqual(reach_road(self.tree, 9), [(4, "right"), (6, "here")])
        self.assertIsNone(reach_road(self.tree, 10))
        self.assertIsNone(reach_road((), 1))
        self.assertEqual(reach_road(((), (5, 0, 3), ()), 3), [(5, "here")])

    def test_first_and_last_card(self):
        for many in (1, 2, 64):
            cards = [(key, 0, 1) for key in range(many)]
            for tree in (chain_left(cards), chain_right(cards), zigzag(cards)):
                self.assertEqual(reached(tree, 1), 1)
                self.assertEqual(reached(tree, many), many)
                self.assertIsNone(reached(tree, many + 1))
                self.assertEqual(reach_road(tree, 1)[-1], (0, "here"))
                self.assertEqual(reach_road(tree, many)[-1], (many - 1, "here"))
                self.assertIsNone(reach_road(tree, many + 1))

    def test_the_list_is_the_askers_own(self):
        told = reach_road(self.tree, 1)
        told.clear()
        self.assertEqual(reach_road(self.tree, 1), [(4, "left"), (2, "left"), (1, "here")])


def plain_richest(tree):
    cards = flat(tree)
    found = [(-sum(card[2] for card in cards[low:high + 1]), cards[low][0], cards[high][0])
             for low in range(len(cards)) for high in range(low, len(cards))]
    if not found:
        return None
    less, low, high = min(found)
    return (-less, low, high)


class Richest(unittest.TestCase):
    def test_told(self):
        self.assertIsNone(richest(()))
        self.assertEqual(richest(of_worths([3, -1, 4, -9, 5])), (6, 10, 30))
        self.assertEqual(richest(of_worths([-5])), (-5, 10, 10))
        self.assertEqual(richest(of_worths([0])), (0, 10, 10))

    def test_all_below_nought(self):
        self.assertEqual(richest(of_worths([-5, -3, -4])), (-3, 20, 20))
        self.assertEqual(richest(of_worths([-3, -5, -3])), (-3, 10, 10))

    def test_several_of_one_sum(self):
        self.assertEqual(richest(of_worths([5, -9, 5])), (5, 10, 10))
        self.assertEqual(richest(of_worths([0, 5, 0])), (5, 10, 20))
        self.assertEqual(richest(of_worths([-1, 0, 5, 0, 0])), (5, 20, 30))
        self.assertEqual(richest(of_worths([2, -2, 5])), (5, 10, 30))
        self.assertEqual(richest(of_worths([5, -2, 2])), (5, 10, 10))
        self.assertEqual(richest(of_worths([0, 0, 0])), (0, 10, 10))

    def test_samples(self):
        rng = dice(67)
        trees = sample_trees(68, 25) + [with_worths(of_worths([1] * 9), 10 ** 40)]
        trees += [of_worths([rng.randint(-2, 2) for _ in range(rng.randint(1, 12))]) for _ in range(150)]
        for tree in trees:
            kept = frozen(tree)
            told = richest(tree)
            self.assertEqual(told, plain_richest(tree))
            self.assertIn(type(told), (tuple, type(None)))
            self.assertEqual(frozen(tree), kept)

    def test_bounds(self):
        tree = of_worths([GREATEST] * 64)
        self.assertEqual(richest(tree), (64 * GREATEST, 10, 640))
        self.assertEqual(richest(of_worths([-GREATEST] * 64)), (-GREATEST, 10, 10))


def plain_tiles(tree, low, high):
    """From the words of the document: all parts that lie within, less those in a greater one."""
    keys = {node[1][0]: [card[0] for card in flat(node[:3])] for node in nodes(tree)}
    inner = [top for top in keys if all(low <= key <= high for key in keys[top])]
    greatest = [top for top in inner if not any(top in keys[other] for other in inner if other != top)]
    covered = [key for top in greatest for key in keys[top]]
    rows = [(keys[top][0], ("part", top)) for top in greatest]
    rows += [(key, ("card", key)) for key in keys if low <= key <= high and key not in covered]
    return [tile for _, tile in sorted(rows)]


class Tiles(unittest.TestCase):
    tree = ((((), (1, 0, 4), ()), (2, 0, -9), ((), (3, 0, 5), ())), (4, 0, 1), ((), (6, 0, 8), ((), (8, 0, -2), ())))

    def test_told(self):
        self.assertEqual(tiles(self.tree, 1, 8), [("part", 4)])
        self.assertEqual(tiles(self.tree, 0, 9), [("part", 4)])
        self.assertEqual(tiles(self.tree, 1, 4), [("part", 2), ("card", 4)])
        self.assertEqual(tiles(self.tree, 2, 6), [("card", 2), ("part", 3), ("card", 4), ("card", 6)])
        self.assertEqual(tiles(self.tree, 3, 8), [("part", 3), ("card", 4), ("part", 6)])
        self.assertEqual(tiles(self.tree, 3, 3), [("part", 3)])
        self.assertEqual(tiles(self.tree, 4, 4), [("card", 4)])
        self.assertEqual(tiles(self.tree, 8, 8), [("part", 8)])
        self.assertEqual(tiles(self.tree, 5, 5), [])
        self.assertEqual(tiles(self.tree, 8, 1), [])
        self.assertEqual(tiles((), 0, 9), [])
        self.assertEqual(tiles(((), (5, 0, 0), ()), 5, 5), [("part", 5)])

    def test_all_trees(self):
        for many in range(6):
            for tree in all_trees(plain(many)):
                for low in range(-1, many + 1):
                    for high in range(-1, many + 1):
                        self.assertEqual(tiles(tree, low, high), plain_tiles(tree, low, high))

    def test_samples(self):
        rng = dice(69)
        for tree in sample_trees(70, 25) + [with_worths(self.tree, 10 ** 40)]:
            kept = frozen(tree)
            about = keys_about(tree)
            for _ in range(20):
                low, high = rng.choice(about), rng.choice(about)
                told = tiles(tree, low, high)
                self.assertEqual(told, plain_tiles(tree, low, high))
                self.assertIs(type(told), list)
            self.assertEqual(frozen(tree), kept)

    def test_the_list_is_the_askers_own(self):
        for ask in (lambda: tiles(self.tree, 2, 6), lambda: tiles((), 0, 1)):
            told = ask()
            kept = frozen(told)
            told.append(None)
            self.assertEqual(frozen(ask()), kept)


if __name__ == "__main__":
    unittest.main()
