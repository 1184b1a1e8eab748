import math
import unittest

from crestkeys.depths import crowd, depth_counts, depth_table, gap_sums, table_holds
from tests.making import all_orders, dice, frozen, odd_things, otherwise, tree_by


def depths_in(tree, depth=0):
    """For each card its depth, and for each gap from the left its own."""
    if tree == ():
        return {}, [depth]
    left, card, right = tree
    cards, gaps = depths_in(left, depth + 1)
    more, behind = depths_in(right, depth + 1)
    return {**cards, card[0]: depth, **more}, gaps + behind


class DepthCounts(unittest.TestCase):
    def test_told(self):
        self.assertEqual(depth_counts(0, 0), (1,))
        self.assertEqual(depth_counts(1, 0), (1, 1))
        self.assertEqual(depth_counts(1, 1), (2, 2, 2))
        self.assertEqual(depth_counts(0, 2), (2, 3, 1))

    def test_held_against_all_orders(self):
        for n in range(1, 7):
            trees = [depths_in(tree_by(order))[0] for order in all_orders(n)]
            for a in range(n):
                depths = [tree[a] for tree in trees]
                told = depth_counts(a, n - 1 - a)
                self.assertEqual(told, tuple(depths.count(d) for d in range(n)))
                self.assertIs(type(told), tuple)

    def test_twenty_three_together(self):
        for a in range(24):
            told = depth_counts(a, 23 - a)
            self.assertEqual(len(told), 24)
            self.assertEqual((sum(told), told[0]), (math.factorial(24), math.factorial(23)))
            self.assertEqual(told, depth_counts(23 - a, a))
            # The deepest hangs beneath all others, which come from either side in any mix of their two rows.
            self.assertEqual(told[23], math.comb(23, a))
        # By one end the depth counts records, as in the numbers of Stirling.
        self.assertEqual(depth_counts(0, 23)[1], sum(math.factorial(23) // k for k in range(1, 24)))


class DepthTable(unittest.TestCase):
    def test_told(self):
        self.assertEqual(depth_table(0, 0), [[(1,)]])
        self.assertEqual(depth_table(1, 1), [[(1,), (1, 1)], [(1, 1), (2, 2, 2)]])
        self.assertEqual(depth_table(0, 1), [[(1,), (1, 1)]])
        self.assertEqual(depth_table(1, 0), [[(1,)], [(1, 1)]])

    def test_samples(self):
        for left, right in ((0, 0), (0, 5), (5, 0), (3, 2), (2, 3), (4, 4), (0, 23), (23, 0), (11, 12)):
            told = depth_table(left, right)
            due = [[depth_counts(a, b) for b in range(right + 1)] for a in range(left + 1)]
            self.assertEqual(told, due)
            self.assertEqual(type(told), list)
            self.assertEqual({type(row) for row in told} | {type(part) for row in told for part in row}, {list, tuple})
            told[0].append(None)
            told.append(None)
            self.assertEqual(depth_table(left, right), due)


class TableHolds(unittest.TestCase):
    def test_tables(self):
        sizes = [(left, right) for left in range(4) for right in range(4)] + [(0, 23), (23, 0), (11, 12), (12, 11)]
        tables = {(left, right): depth_table(left, right) for left, right in sizes}
        for left, right in sizes:
            for other, table in tables.items():
                kept = frozen(table)
                self.assertIs(table_holds(left, right, table), other == (left, right), (left, right, other))
                self.assertEqual(frozen(table), kept)

    def test_anything_else(self):
        for left, right in ((0, 0), (0, 1), (1, 0), (1, 1), (2, 1), (0, 3), (2, 3)):
            for thing in [*otherwise(depth_table(left, right)), *odd_things()]:
                self.assertIs(table_holds(left, right, thing), False, thing)

    def test_one_number_otherwise_in_a_great_table(self):
        rng = dice(151)
        for left, right in ((11, 12), (0, 23), (7, 9)):
            for _ in range(30):
                table = depth_table(left, right)
                a, b = rng.randint(0, left), rng.randint(0, right)
                at = rng.randint(0, a + b)
                counts = list(table[a][b])
                counts[at] += rng.choice([1, -1, 10 ** 30])
                table[a][b] = tuple(counts)
                self.assertIs(table_holds(left, right, table), False)

    def test_truths(self):
        for thing in ([[(True,)]], [[(True,), (1, 1)], [(1, 1), (2, 2, 2)]], [[(1,), (1, True)], [(1, 1), (2, 2, 2)]]):
            self.assertIs(table_holds(len(thing) - 1, len(thing) - 1, thing), False)

    def test_a_row_told_twice_in_anothers_place(self):
        table = depth_table(2, 2)
        for thing in ([table[0]] * 3, [table[0], table[1], table[1]], table[::-1], [row[::-1] for row in table],
                      [row[:2] + [row[1]] for row in table], [[counts[::-1] for counts in row] for row in table]):
            self.assertIs(table_holds(2, 2, thing), False)


class GapsAndCrowds(unittest.TestCase):
    def test_told(self):
        self.assertEqual(gap_sums(1), (0, 2))
        self.assertEqual(gap_sums(2), (0, 2, 4))
        self.assertEqual(gap_sums(3), (0, 4, 12, 8))
        self.assertEqual(crowd(1), (1,))
        self.assertEqual(crowd(2), (2, 2))
        self.assertEqual(crowd(3), (6, 8, 4))

    def test_held_against_all_orders(self):
        for n in range(1, 7):
            gaps, cards = [0] * (n + 1), [0] * (n + 1)
            for order in all_orders(n):
                depths, between = depths_in(tree_by(order))
                for d in range(n + 1):
                    many, own = between.count(d), list(depths.values()).count(d)
                    above = 2 * list(depths.values()).count(d - 1) if d else 1
                    self.assertEqual(many, above - own)
                    gaps[d] += many
                    cards[d] += own
            self.assertEqual(gap_sums(n), tuple(gaps))
            self.assertEqual(crowd(n), tuple(cards[:n]))
            self.assertEqual((type(gap_sums(n)), type(crowd(n))), (tuple, tuple))

    def test_what_the_product_tells(self):
        for n in range(1, 25):
            gaps, cards, every = gap_sums(n), crowd(n), math.factorial(n)
            self.assertEqual((len(gaps), len(cards)), (n + 1, n))
            for x in range(-3, 9):
                product = math.prod(2 * x + k - 1 for k in range(1, n + 1))
                self.assertEqual(sum(many * x ** d for d, many in enumerate(gaps)), product)
                self.assertEqual((2 * x - 1) * sum(many * x ** d for d, many in enumerate(cards)), product - every)
            self.assertEqual(sum(gaps), every * (n + 1))
            self.assertEqual(sum(cards), every * n)

    def test_a_crowd_is_that_of_all_cards_counts(self):
        for n in (1, 7, 12, 24):
            rows = [depth_counts(a, n - 1 - a) for a in range(n)]
            self.assertEqual(crowd(n), tuple(sum(row[d] for row in rows) for d in range(n)))


if __name__ == "__main__":
    unittest.main()
