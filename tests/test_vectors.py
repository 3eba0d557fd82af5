import itertools
import math
import unittest
from fractions import Fraction

from firsthit.vectors import common_divisor, cross, dot, is_less, lowest_terms, way_between

BIG = 2 ** 200 - 1


class Ratios(unittest.TestCase):
    def test_common_divisor(self):
        for one in list(range(-12, 13)) + [BIG, -BIG, 2 ** 199]:
            for other in list(range(-12, 13)) + [BIG, 2 ** 100]:
                with self.subTest(one=one, other=other):
                    self.assertEqual(common_divisor(one, other), math.gcd(one, other))

    def test_lowest_terms(self):
        for ratio, told in (
            ((0, 7), (0, 1)),
            ((6, 4), (3, 2)),
            ((-6, 4), (-3, 2)),
            ((5, 1), (5, 1)),
            ((8, 4), (2, 1)),
            ((BIG * 6, BIG * 4), (3, 2)),
            ((BIG, 2 ** 199), (BIG, 2 ** 199)),
        ):
            with self.subTest(ratio=ratio):
                self.assertEqual(lowest_terms(ratio), told)

    def test_is_less(self):
        ratios = [(top, under) for top in range(-4, 5) for under in range(1, 5)]
        ratios += [(BIG, BIG - 1), (BIG - 1, BIG), (-BIG, 3)]
        for one in ratios:
            for other in ratios:
                with self.subTest(one=one, other=other):
                    self.assertEqual(is_less(one, other), Fraction(*one) < Fraction(*other))


class Ways(unittest.TestCase):
    def test_way_between(self):
        self.assertEqual(way_between((1, 2, 3), (5, 2, -4)), (4, 0, -7))
        self.assertEqual(way_between((BIG, -BIG, 0), (-BIG, BIG, BIG)), (-2 * BIG, 2 * BIG, BIG))

    def test_dot(self):
        self.assertEqual(dot((1, 2, 3), (4, -5, 7)), 15)
        self.assertEqual(dot((BIG, BIG, BIG), (BIG, -BIG, 1)), BIG)

    def test_cross(self):
        self.assertEqual(cross((1, 0, 0), (0, 1, 0)), (0, 0, 1))
        self.assertEqual(cross((0, 1, 0), (0, 0, 1)), (1, 0, 0))
        self.assertEqual(cross((0, 0, 1), (1, 0, 0)), (0, 1, 0))
        self.assertEqual(cross((2, 4, -6), (-3, -6, 9)), (0, 0, 0))

    def test_cross_is_upright_on_both(self):
        points = list(itertools.product((-2, 0, 3), (1, -1), (5, 0, 7)))
        for one, other in itertools.product(points, repeat=2):
            upright = cross(one, other)
            self.assertEqual((dot(one, upright), dot(other, upright)), (0, 0))
            self.assertEqual(dot(upright, upright), dot(one, one) * dot(other, other) - dot(one, other) ** 2)


if __name__ == "__main__":
    unittest.main()
