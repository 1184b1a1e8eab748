import math
import unittest
from fractions import Fraction

from crestkeys.reckoning import added, common, lowest


class Reckoning(unittest.TestCase):
    def test_common(self):
        for one in range(40):
            for other in range(40):
                self.assertEqual(common(one, other), math.gcd(one, other))

    def test_lowest_and_added(self):
        for top in range(-12, 13):
            for bottom in range(1, 13):
                one = Fraction(top, bottom)
                self.assertEqual(lowest(top, bottom), (one.numerator, one.denominator))
                for other in (Fraction(0), Fraction(1, 3), Fraction(-5, 6), Fraction(7, 4), -one):
                    whole = one + other
                    self.assertEqual(added((top, bottom), (other.numerator, other.denominator)),
                                     (whole.numerator, whole.denominator))


if __name__ == "__main__":
    unittest.main()
