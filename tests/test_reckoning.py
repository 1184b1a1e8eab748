import math
import unittest
from fractions import Fraction

from crestkeys.reckoning import added, choose, common, factorial, lowest, power, total_of


class Reckoning(unittest.TestCase):
    def test_power_and_factorial(self):
        for base in (-3, 0, 1, 2, 7, 9973):
            for times in range(9):
                self.assertEqual(power(base, times), base ** times)
        for n in range(45):
            self.assertEqual(factorial(n), math.factorial(n))

    def test_choose(self):
        for n in range(50):
            for k in range(12):
                self.assertEqual(choose(n, k), math.comb(n, k))
        self.assertEqual(choose(40, 20), math.comb(40, 20))

    def test_common(self):
        for one in range(40):
            for other in range(40):
                self.assertEqual(common(one, other), math.gcd(one, other))

    def test_lowest_and_added(self):
        for top in range(-12, 13):
            for bottom in range(1, 13):
                one = Fraction(top, bottom)
                self.assertEqual(lowest(top, bottom), (one.numerator, one.denominator))
                for other in (Fraction(0), Fraction(1, 3), Fraction(-5, 6), Fraction(7, 4), -one):
                    whole = one + other
                    self.assertEqual(added((top, bottom), (other.numerator, other.denominator)),
                                     (whole.numerator, whole.denominator))

    def test_total_of(self):
        self.assertEqual(total_of([]), (0, 1))
        self.assertEqual(total_of([(1, 2), (1, 3), (-1, 3), (-1, 2)]), (0, 1))
        for many in range(1, 20):
            whole = sum(Fraction(1, k) for k in range(1, many + 1))
            self.assertEqual(total_of([(1, k) for k in range(1, many + 1)]), (whole.numerator, whole.denominator))


if __name__ == "__main__":
    unittest.main()
