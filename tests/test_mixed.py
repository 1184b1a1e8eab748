import itertools
import math
import unittest
from fractions import Fraction

from crestkeys.errors import TooMany
from crestkeys.mixed import letters, mixed_in, mixed_mean, mixed_share, pure_parts, runs
from tests.making import by_key, crest_by_leafing, flat, frozen, nodes, pairs_of_crests, with_worths

ASKED = (letters, runs, mixed_in, pure_parts)


def plain_letters(one, other):
    ones, others = by_key(one), by_key(other)
    return [(key, "c" if key in ones and key in others else "a" if key in ones else "b")
            for key in sorted(set(ones) | set(others))]


def plain_runs(one, other):
    made = []
    for letter, row in itertools.groupby(plain_letters(one, other), key=lambda pair: pair[1]):
        keys = [key for key, _ in row]
        made.append((letter, keys[0], keys[-1], len(keys)))
    return made


def mixed_of(tree, named):
    """The mixed keys of a tree by the words of the document."""
    return [card[0] for left, card, right, _ in nodes(tree) if named[card[0]] == "c"
            or any(named[one[0]] != named[card[0]] for one in flat(left) + flat(right))]


def plain_pure(tree, named):
    """The parts without a mixed card that lie in no greater one."""
    mixed = mixed_of(tree, named)
    parts = [[card[0] for card in flat(node[:3])] for node in nodes(tree)]
    clean = [part for part in parts if not set(part) & set(mixed)]
    greatest = [part for part in clean if not any(set(part) < set(other) for other in clean)]
    return sorted(((named[part[0]], part[0], part[-1], len(part)) for part in greatest), key=lambda row: row[1])


class TwoCrests(unittest.TestCase):
    one = crest_by_leafing([(1, 9, 0), (2, 3, 0), (5, 4, 0), (6, 1, 0)])
    other = crest_by_leafing([(3, 7, 0), (5, 2, 0), (8, 1, 0)])

    def test_told(self):
        self.assertEqual(letters(self.one, self.other), [(1, "a"), (2, "a"), (3, "b"), (5, "c"), (6, "a"), (8, "b")])
        self.assertEqual(runs(self.one, self.other), [
            ("a", 1, 2, 2), ("b", 3, 3, 1), ("c", 5, 5, 1), ("a", 6, 6, 1), ("b", 8, 8, 1)])
        self.assertEqual(mixed_in(self.one, self.other), [1, 3, 5, 6])
        self.assertEqual(pure_parts(self.one, self.other), [("a", 2, 2, 1), ("b", 8, 8, 1)])
        self.assertEqual(letters(self.other, self.one), [(1, "b"), (2, "b"), (3, "a"), (5, "c"), (6, "b"), (8, "a")])

    def test_without_cards(self):
        for ask in ASKED:
            self.assertEqual(ask((), ()), [])
        keys = [card[0] for card in flat(self.one)]
        for one, other, letter in ((self.one, (), "a"), ((), self.one, "b")):
            self.assertEqual(letters(one, other), [(key, letter) for key in keys])
            self.assertEqual(runs(one, other), [(letter, 1, 6, 4)])
            self.assertEqual(mixed_in(one, other), [])
            self.assertEqual(pure_parts(one, other), [(letter, 1, 6, 4)])
        self.assertEqual(mixed_in(self.one, self.one), keys)
        self.assertEqual(pure_parts(self.one, self.one), [])
        self.assertEqual(runs(self.one, self.one), [("c", 1, 6, 4)])

    def test_samples(self):
        wide = [(with_worths(self.one, 10 ** 40), with_worths(self.other, -(10 ** 40)))]
        for one, other in pairs_of_crests(79) + wide:
            kept = frozen([one, other])
            crest = crest_by_leafing({**by_key(other), **by_key(one)}.values())
            named = dict(plain_letters(one, other))
            self.assertEqual(letters(one, other), plain_letters(one, other))
            self.assertEqual(runs(one, other), plain_runs(one, other))
            self.assertEqual(mixed_in(one, other), mixed_of(crest, named))
            self.assertEqual(pure_parts(one, other), plain_pure(crest, named))
            self.assertEqual(frozen([one, other]), kept)

    def test_what_mixed_cards_part(self):
        for one, other in pairs_of_crests(80, 60):
            crest = crest_by_leafing({**by_key(other), **by_key(one)}.values())
            mixed, pure, rows = mixed_in(one, other), pure_parts(one, other), runs(one, other)
            for left, card, right, _ in nodes(crest):
                if any(below[0] in mixed for below in flat(left) + flat(right)):
                    self.assertIn(card[0], mixed)
                within = [part for part in pure if part[1] <= card[0] <= part[2]]
                self.assertEqual(len(within), 0 if card[0] in mixed else 1)
            for letter, low, high, many in pure:
                around = [row for row in rows if row[0] == letter and row[1] <= low and high <= row[2]]
                self.assertEqual(len(around), 1)
                self.assertEqual(many, sum(1 for card in flat(crest) if low <= card[0] <= high))
            self.assertLessEqual(len(pure), len(mixed) + 1)
            self.assertGreaterEqual(len(pure) + len(mixed), len(rows))

    def test_too_many(self):
        def of_keys(first, last):
            return crest_by_leafing([(key, key * 7 % 11, 0) for key in range(first, last)])
        for one, other in (((0, 32), (32, 64)), ((0, 64), (0, 64)), ((0, 64), (0, 0)), ((0, 40), (24, 64))):
            one, other = of_keys(*one), of_keys(*other)
            self.assertEqual(len(letters(one, other)), 64)
            self.assertEqual(sum(row[3] for row in runs(one, other)), 64)
            self.assertEqual(len(mixed_in(one, other)) + sum(row[3] for row in pure_parts(one, other)), 64)
        for one, other in (((0, 32), (32, 65)), ((0, 64), (64, 65)), ((1, 65), (0, 64)), ((64, 65), (0, 64))):
            one, other = of_keys(*one), of_keys(*other)
            for ask in ASKED:
                with self.assertRaises(TooMany) as caught:
                    ask(one, other)
                self.assertEqual(caught.exception.most, 64)

    def test_the_lists_are_the_askers_own(self):
        for ask in ASKED:
            for one, other in ((self.one, self.other), ((), ())):
                told = ask(one, other)
                self.assertIs(type(told), list)
                kept = frozen(told)
                told.append(None)
                self.assertEqual(frozen(ask(one, other)), kept)
                told.clear()
                self.assertEqual(frozen(ask(one, other)), kept)


def plain_shares(row):
    """Of each card the share of all orders by which it is mixed, by going through them all."""
    often = [0] * len(row)
    for ranks in itertools.permutations(range(len(row))):
        crest = crest_by_leafing([(key, rank, 0) for key, rank in enumerate(ranks)])
        for key in mixed_of(crest, row):
            often[key] += 1
    return [Fraction(many, math.factorial(len(row))) for many in often]


def pair(fraction):
    return (fraction.numerator, fraction.denominator)


class Shares(unittest.TestCase):
    def test_told(self):
        self.assertEqual([mixed_share("aab", k) for k in range(3)], [(1, 3), (1, 2), (1, 2)])
        self.assertEqual([mixed_share(("b", "a", "a", "c"), k) for k in range(4)],
                         [(1, 2), (7, 12), (7, 12), (1, 1)])
        self.assertEqual([mixed_share(["a"] * 5, k) for k in range(5)], [(0, 1)] * 5)
        self.assertEqual([mixed_share(["c"] * 3, k) for k in range(3)], [(1, 1)] * 3)
        self.assertEqual(mixed_share(["a"], 0), (0, 1))
        self.assertEqual(mixed_share(["b", "a", "b"], 1), (2, 3))
        self.assertEqual(mixed_mean([]), (0, 1))
        self.assertEqual(mixed_mean(()), (0, 1))
        self.assertEqual(mixed_mean(["a", "a", "b"]), (4, 3))
        self.assertEqual(mixed_mean(["b"] * 7), (0, 1))
        self.assertEqual(mixed_mean(["c"] * 7), (7, 1))

    def test_all_short_rows(self):
        rows = [row for many in range(5) for row in itertools.product("abc", repeat=many)]
        rows += ["abbba", "aabbb", "abbbbc", "aabbaa", "cbbbba", "bbbbba", "abcab"]
        for row in rows:
            shares = plain_shares(row)
            for handed in (list(row), tuple(row)):
                self.assertEqual([mixed_share(handed, k) for k in range(len(row))], [pair(one) for one in shares])
                self.assertEqual(mixed_mean(handed), pair(sum(shares, Fraction(0))))
                self.assertEqual(list(row), list(handed))

    def test_long_rows(self):
        row = ["a"] * 20 + ["b"] * 24 + ["c"] + ["a"] * 19
        self.assertEqual(mixed_share(row, 0), (1, 21))
        self.assertEqual(mixed_share(row, 19), (1, 2))
        self.assertEqual(mixed_share(row, 63), (1, 20))
        self.assertEqual(mixed_share(row, 44), (1, 1))
        self.assertEqual(mixed_share(row, 25), pair(Fraction(1, 7) + Fraction(1, 20) - Fraction(1, 26)))
        shares = [Fraction(*mixed_share(row, k)) for k in range(64)]
        self.assertEqual(mixed_mean(row), pair(sum(shares)))
        self.assertEqual(mixed_mean(row), mixed_mean(tuple(row)))

    def test_the_mean_is_that_of_the_mixed_cards_of_all_orders(self):
        many = 0
        for ranks in itertools.permutations(range(5)):
            one = crest_by_leafing([(key, ranks[key], 0) for key in (0, 1, 4)])
            other = crest_by_leafing([(key, ranks[key], 0) for key in (1, 2, 3)])
            many += len(mixed_in(one, other))
        self.assertEqual(mixed_mean(["a", "c", "b", "b", "a"]), pair(Fraction(many, 120)))


if __name__ == "__main__":
    unittest.main()
