import math
import unittest
from fractions import Fraction

from crestkeys.bounds import height_by_crowd, height_by_factor, least_height, paper_for, shows_low
from crestkeys.depths import crowd
from crestkeys.heights import heights
from tests.making import all_orders, dice, frozen, height_by, odd_things, otherwise, plain_fraction, tree_by

GREAT = 10 ** 12
SHARES = [(1, 2), (1, 3), (2, 3), (1, 10), (9, 10), (1, 1000), (999, 1000), (1, 10 ** 6), (1, GREAT), (GREAT - 1, GREAT),
          (7, GREAT), (2, 4), (10, 30), (500, 1000), (GREAT // 2, GREAT), (1, 6), (1, 24), (1, 120)]


def high_share(n, h, whole={}):
    """The share of all orders whose trees are higher than h, by the table, which test_heights holds against all."""
    if n not in whole:
        whole[n] = heights(n, n)[n]
    return 1 - Fraction(whole[n][min(h, n)], math.factorial(n))


def crowd_share(n, h, whole={}):
    if n not in whole:
        whole[n] = crowd(n)
    return Fraction(whole[n][h], math.factorial(n)) if h < n else Fraction(0)


def factor_share(n, h, x):
    return Fraction(math.comb(n + 2 * x - 1, 2 * x - 1), 2 * x ** (h + 1))


def least(share, p):
    """The least h whose share is at most p."""
    h = 0
    while share(h) > Fraction(*p):
        h += 1
    return h


def near(share):
    """The shares, as they may be handed in, that are just met, and one step beside."""
    top, bottom = share.numerator, share.denominator
    made = [(top, bottom)]
    for times in (2, 1000, GREAT // bottom):
        made += [(top * times, bottom * times), (top * times - 1, bottom * times), (top * times + 1, bottom * times)]
    return [(up, down) for up, down in made if 1 <= up < down <= GREAT]


class LeastHeights(unittest.TestCase):
    def test_told(self):
        self.assertEqual(least_height(1, (1, 2)), 1)
        self.assertEqual(least_height(3, (2, 3)), 2)
        self.assertEqual(least_height(3, (66, 100)), 3)
        self.assertEqual(height_by_crowd(3, (2, 3)), 2)
        self.assertEqual(height_by_crowd(3, (66, 100)), 3)
        self.assertEqual(height_by_factor(3, (1, 2), 2), 4)

    def test_held_against_all_orders(self):
        for n in range(1, 7):
            high = [height_by(tree_by(order)) for order in all_orders(n)]
            shares = [Fraction(len([one for one in high if one > h]), len(high)) for h in range(n + 1)]
            for p in SHARES + [one for share in shares[1:n] for one in near(share)]:
                self.assertEqual(least_height(n, p), least(lambda h: shares[h], p))

    def test_just_met_and_one_step_beside(self):
        for n in (1, 2, 5, 9, 14):
            for h in range(n):
                for p in near(high_share(n, h)):
                    self.assertEqual(least_height(n, p), least(lambda h: high_share(n, h), p))
                for p in near(crowd_share(n, h)):
                    self.assertEqual(height_by_crowd(n, p), least(lambda h: crowd_share(n, h), p))
        for n in (1, 2, 7, 24, 1000):
            for x in range(2, 9):
                for h in range(8):
                    for p in near(factor_share(n, h, x)):
                        self.assertEqual(height_by_factor(n, p, x), least(lambda h: factor_share(n, h, x), p))

    def test_steps_are_steps(self):
        share = high_share(5, 3)
        top, bottom = plain_fraction(share)
        h = least_height(5, (top, bottom))
        self.assertEqual(h, 3)
        self.assertEqual(least_height(5, (top * 1000, bottom * 1000)), 3)
        self.assertEqual(least_height(5, (top * 1000 + 1, bottom * 1000)), 3)
        self.assertEqual(least_height(5, (top * 1000 - 1, bottom * 1000)), 4)

    def test_all_numbers(self):
        for n in range(1, 25):
            for p in SHARES:
                told = least_height(n, p)
                self.assertEqual(told, least(lambda h: high_share(n, h), p))
                self.assertEqual(height_by_crowd(n, p), least(lambda h: crowd_share(n, h), p))
                self.assertEqual(least_height(n, p), told)

    def test_each_bound_never_below_the_one_ahead(self):
        for n in range(1, 25):
            for p in SHARES:
                first, then = least_height(n, p), height_by_crowd(n, p)
                self.assertLessEqual(first, then)
                self.assertLessEqual(then, n)
                for x in range(2, 9):
                    self.assertLessEqual(then, height_by_factor(n, p, x))

    def test_factors_and_great_numbers(self):
        for n in (1, 2, 24, 25, 1000, 999983, 10 ** 6):
            for x in range(2, 9):
                for p in ((1, 2), (1, GREAT), (GREAT - 1, GREAT), (3, 1000), (6, 2000)):
                    told = height_by_factor(n, p, x)
                    self.assertEqual(told, least(lambda h: factor_share(n, h, x), p))
                    self.assertEqual(height_by_factor(n, p, x), told)

    def test_not_in_lowest_terms(self):
        for times in (2, 3, 1000, GREAT // 7):
            for n in (1, 6, 24):
                for ask in (least_height, height_by_crowd, lambda n, p: height_by_factor(n, p, 3)):
                    self.assertEqual(ask(n, (2 * times, 7 * times)), ask(n, (2, 7)))


class Papers(unittest.TestCase):
    def test_a_paper_or_none(self):
        rng = dice(171)
        answers = []
        for n in (1, 2, 3, 5, 9, 17, 24):
            for h in sorted({0, 1, n - 1, n, n + 1 if n < 24 else 24, 24, rng.randint(0, 24)}):
                for p in SHARES + near(high_share(n, h)):
                    paper = paper_for(n, h, p)
                    answers.append(paper is None)
                    self.assertEqual(paper is None, high_share(n, h) > Fraction(*p))
                    if paper is not None:
                        self.assertIs(shows_low(n, h, p, paper), True)
        self.assertEqual(set(answers), {True, False})

    def test_the_paper_is_the_askers_own(self):
        told = paper_for(3, 2, (2, 3))
        kept = frozen(told)
        self.assertIs(type(told), tuple)
        for part in told:
            if isinstance(part, list):
                part[0].append(None)
                part.append(None)
        self.assertEqual(frozen(paper_for(3, 2, (2, 3))), kept)

    def test_right_papers(self):
        for n in (1, 2, 3, 6, 12, 24):
            for h in (0, 1, 2, n - 1, n, 10, 24):
                for p in SHARES + near(high_share(n, h)) + near(crowd_share(n, h)):
                    most = Fraction(*p)
                    self.assertIs(shows_low(n, h, p, ("crowd", crowd(n))), crowd_share(n, h) <= most)
                    for x in range(2, 9):
                        self.assertIs(shows_low(n, h, p, ("factor", x)), factor_share(n, h, x) <= most)
                    if n < 24 or p in SHARES[:6]:
                        self.assertIs(shows_low(n, h, p, ("heights", heights(n, h))), high_share(n, h) <= most)

    def test_what_is_let_by_is_so(self):
        for n in (1, 2, 4, 5):
            for h in range(n + 2):
                for p in SHARES + near(high_share(n, h)):
                    if high_share(n, h) > Fraction(*p):
                        papers = [("heights", heights(n, h)), ("crowd", crowd(n))] + [("factor", x) for x in range(-2, 30)]
                        for paper in papers + [other for one in papers[:2] for other in otherwise(one)]:
                            self.assertIs(shows_low(n, h, p, paper), False, (n, h, p, paper))

    def test_one_number_otherwise(self):
        for n, h, p in ((1, 1, (1, 2)), (3, 3, (1, 2)), (4, 3, (9, 10)), (2, 4, (1, GREAT))):
            for good in (("heights", heights(n, h)), ("crowd", crowd(n))):
                self.assertIs(shows_low(n, h, p, good), True)
                for thing in otherwise(good):
                    self.assertIs(shows_low(n, h, p, thing), repr(thing) == repr(good), thing)
        rng = dice(172)
        for _ in range(40):
            n, h = rng.randint(10, 24), rng.randint(20, 24)
            table, many = heights(n, h), list(crowd(n))
            self.assertIs(shows_low(n, h, (9, 10), ("crowd", tuple(many))), True)
            table[rng.randint(0, n)][rng.randint(0, h)] += rng.choice([1, -1])
            many[rng.randint(0, n - 1)] += rng.choice([1, -1])
            self.assertIs(shows_low(n, h, (9, 10), ("heights", table)), False)
            self.assertIs(shows_low(n, h, (9, 10), ("crowd", tuple(many))), False)

    def test_papers_of_other_numbers(self):
        for n, h in ((4, 4), (5, 4), (4, 5)):
            for other in ((4, 4), (5, 4), (4, 5)):
                self.assertIs(shows_low(n, h, (1, 2), ("heights", heights(*other))), (n, h) == other)
            for other in (3, 4, 5, 6):
                self.assertIs(shows_low(n, h, (1, 2), ("crowd", crowd(other))), n == other)

    def test_factors(self):
        for x in range(-3, 20):
            self.assertIs(shows_low(3, 24, (1, 2), ("factor", x)), 2 <= x <= 8)
        for x in (True, False, None, "3", (3,), [3], 10 ** 59, -(10 ** 59), 1, 9, 0):
            self.assertIs(shows_low(3, 24, (1, 2), ("factor", x)), False, x)

    def test_forms(self):
        n, h, p = 3, 24, (1, 2)
        for word, told in (("heights", heights(n, h)), ("crowd", crowd(n)), ("factor", 3)):
            self.assertIs(shows_low(n, h, p, (word, told)), True)
            for thing in ([word, told], (word,), (word, told, told), (told, word), ("", told), (word.upper(), told),
                          (word + "s", told), (None, told), (True, told), ((word,), told), told, (word, (told,)),
                          (word, [told]), (word, word), (word, None), (word, True), (word, ()), (word, [])):
                self.assertIs(shows_low(n, h, p, thing), False, thing)
            for other in ("heights", "crowd", "factor"):
                self.assertIs(shows_low(n, h, p, (other, told)), word == other)
        self.assertIs(shows_low(n, h, p, ("crowd", list(crowd(n)))), False)
        self.assertIs(shows_low(n, h, p, ("heights", tuple(heights(n, h)))), False)
        self.assertIs(shows_low(1, h, p, ("crowd", (True,))), False)
        for thing in odd_things():
            self.assertIs(shows_low(n, h, p, thing), False, thing)

    def test_what_is_handed_in_stays(self):
        thing = ("heights", heights(4, 4))
        kept = frozen(thing)
        for _ in range(2):
            self.assertIs(shows_low(4, 4, (1, 2), thing), True)
            self.assertEqual(frozen(thing), kept)


if __name__ == "__main__":
    unittest.main()
