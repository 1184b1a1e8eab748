import math
import unittest

from crestkeys.heights import heights, heights_hold
from tests.making import all_orders, dice, frozen, height_by, odd_things, otherwise, tree_by


class Heights(unittest.TestCase):
    def test_told(self):
        self.assertEqual(heights(0, 0), [[1]])
        self.assertEqual(heights(0, 3), [[1, 1, 1, 1]])
        self.assertEqual(heights(3, 0), [[1], [0], [0], [0]])
        self.assertEqual(heights(3, 3), [[1, 1, 1, 1], [0, 1, 1, 1], [0, 0, 2, 2], [0, 0, 2, 6]])

    def test_held_against_all_orders(self):
        due = []
        for m in range(7):
            high = [height_by(tree_by(order)) for order in all_orders(m)]
            due.append([len([one for one in high if one <= g]) for g in range(9)])
        for n in range(7):
            for h in range(9):
                self.assertEqual(heights(n, h), [row[:h + 1] for row in due[:n + 1]])

    def test_nought_and_twenty_four(self):
        whole = heights(24, 24)
        self.assertEqual((len(whole), {len(row) for row in whole}), (25, {25}))
        for m, row in enumerate(whole):
            self.assertEqual(row[m:], [math.factorial(m)] * (25 - m))
            self.assertEqual(row, sorted(row))
            if m:
                # Of trees as high as can be each card, but the last, is at one end of those left.
                self.assertEqual(row[m] - row[m - 1], 2 ** (m - 1))
        self.assertEqual(whole[15][4], 21964800)
        self.assertEqual((whole[16][4], whole[24][4], whole[24][0]), (0, 0, 0))
        self.assertEqual(heights(24, 0), [[1]] + [[0]] * 24)
        self.assertEqual(heights(0, 24), [[1] * 25])
        self.assertEqual(heights(24, 7), [row[:8] for row in whole])
        self.assertEqual(heights(7, 24), whole[:8])

    def test_the_lists_are_the_askers_own(self):
        for n, h in ((0, 0), (3, 3), (5, 0)):
            told = heights(n, h)
            kept = frozen(told)
            told[0].append(None)
            told[-1][0] = None
            told.append(None)
            self.assertEqual(frozen(heights(n, h)), kept)
        self.assertEqual({type(row) for row in heights(4, 4)}, {list})


class HeightsHold(unittest.TestCase):
    def test_those_of_other_numbers(self):
        sizes = [(n, h) for n in range(5) for h in range(5)] + [(24, 24), (24, 23), (23, 24), (0, 24), (24, 0)]
        tables = {size: heights(*size) for size in sizes}
        for n, h in sizes:
            for other, table in tables.items():
                kept = frozen(table)
                self.assertIs(heights_hold(n, h, table), other == (n, h))
                self.assertEqual(frozen(table), kept)

    def test_anything_else(self):
        for n, h in ((0, 0), (0, 2), (1, 0), (1, 1), (2, 2), (3, 2), (4, 3), (3, 5)):
            for thing in [*otherwise(heights(n, h)), *odd_things()]:
                self.assertIs(heights_hold(n, h, thing), repr(thing) == repr(heights(n, h)), thing)

    def test_one_number_otherwise_in_a_great_table(self):
        rng = dice(161)
        for n, h in ((24, 24), (24, 9), (13, 24)):
            for _ in range(15):
                table = heights(n, h)
                m, g = rng.randint(0, n), rng.randint(0, h)
                table[m][g] += rng.choice([1, -1, 10 ** 30])
                self.assertIs(heights_hold(n, h, table), False)

    def test_forms(self):
        good = heights(3, 2)
        for thing in (tuple(good), [tuple(row) for row in good], good[:1] + [tuple(good[1])] + good[2:], good[::-1],
                      [good[0], good[2], good[1], good[3]], good + [good[3]], good[:3], [good[0]] * 4,
                      [row[::-1] for row in good], [row[:2] for row in good], [row + [row[-1]] for row in good],
                      [[True, True, True]] + good[1:], [[1, 1, True]] + good[1:], good[:1] + [[False, 1, 1]] + good[2:],
                      [["1", 1, 1]] + good[1:], [None] + good[1:], [[None] * 3] * 4, "", None, 1):
            self.assertIs(heights_hold(3, 2, thing), False, thing)


if __name__ == "__main__":
    unittest.main()
