import math
import unittest
from fractions import Fraction

from firsthit.vectors import common_divisor, is_less, lowest_terms

BIG = 2 ** 200 - 1


class Ratios(unittest.TestCase):
    def test_common_divisor(self):
        for one in list(range(-12, 13)) + [BIG, -BIG, 2 ** 199]:
            for other in list(range(-12, 13)) + [BIG, 2 ** 100]:
                with self.subTest(one=one, other=other):
                    self.assertEqual(common_divisor(one, other), math.gcd(one, other))

    def test_lowest_terms(self):
        for ratio, told in (
            ((0, 7), (0, 1)),
            ((6, 4), (3, 2)),
            ((-6, 4), (-3, 2)),
            ((5, 1), (5, 1)),
            ((8, 4), (2, 1)),
            ((BIG * 6, BIG * 4), (3, 2)),
            ((BIG, 2 ** 199), (BIG, 2 ** 199)),
        ):
            with self.subTest(ratio=ratio):
                self.assertEqual(lowest_terms(ratio), told)

    def test_is_less(self):
        ratios = [(top, under) for top in range(-4, 5) for under in range(1, 5)]
        ratios += [(BIG, BIG - 1), (BIG - 1, BIG), (-BIG, 3)]
        for one in ratios:
            for other in ratios:
                with self.subTest(one=one, other=other):
                    self.assertEqual(is_less(one, other), Fraction(*one) < Fraction(*other))


if __name__ == "__main__":
    unittest.main()
