"""THE PROMISE: what is told to be met first is met then, and nothing is met ahead of it; no ray leaves a closed
surface from within without meeting it."""

import itertools
import random
import unittest
from fractions import Fraction

from firsthit.scenes import Scene
from firsthit.surfaces import place_of
from firsthit.triangles import meets_triangle
from test_boxes import stay_by_trying
from test_surfaces import box_sides, chance_surface, eight_sides, fine_box, four_sides, plus, turned
from test_triangles import time_by_weights

BIG = 2 ** 200 - 1
SMALL = [way for way in itertools.product(range(-2, 3), repeat=3) if way != (0, 0, 0)]


def ways_from(point, triangles):
    """At each corner and between any two of a triangle, along each side, and along its plane."""
    ways = []
    for a, b, c in triangles:
        ways += [plus(corner, point, -1) for corner in (a, b, c)]
        for one, other in ((a, b), (b, c), (c, a)):
            ways += [plus(plus(one, other), point, -2), plus(plus(one, other, 2), point, -3)]
            ways += [plus(other, one, -1), plus(one, other, -1)]
        ways.append(plus(plus(b, c), a, -2))
    return sorted({way for way in ways if way != (0, 0, 0)})


def time_by_trying(ray, shape):
    if shape[0] == "triangle":
        return time_by_weights(ray, shape[1:])
    stay = stay_by_trying(ray, shape[1:])
    return None if stay is None else stay[0]


class Leaving(unittest.TestCase):
    def check(self, triangles, points, ways=SMALL):
        scene = Scene([("triangle",) + triangle for triangle in triangles])
        within = 0
        for point in points:
            place = place_of(point, triangles)
            at_once = [meets_triangle((point, (3, -1, 2)), triangle) == (0, 1) for triangle in triangles]
            self.assertEqual(place == 0, any(at_once), point)
            if place != 1:
                continue
            within += 1
            for way in ways + ways_from(point, triangles):
                hit = scene.first((point, way))
                if hit is None or hit[0][0] <= 0:
                    self.fail((triangles, point, way, hit))
                if meets_triangle((point, way), triangles[hit[1]]) != hit[0]:
                    self.fail((triangles, point, way, hit))
        return within

    def test_four_corners_and_boxes(self):
        points = list(itertools.product(range(-1, 5), repeat=3))
        self.assertEqual(self.check(box_sides((0, 0, 0), (3, 4, 2)), points), 6)
        self.assertEqual(self.check(turned(box_sides((0, 0, 0), (3, 4, 2))), points), 6)
        self.assertEqual(self.check(four_sides((0, 0, 0), (6, 0, 0), (0, 6, 0), (0, 0, 6)), points), 10)

    def test_a_fine_box(self):
        self.assertEqual(self.check(fine_box(2), itertools.product(range(-3, 4), repeat=3)), 27)

    def test_solids_within_one_another_and_crossing(self):
        points = list(itertools.product(range(-1, 8), (1, 2, 3), (2, 4, 5)))
        outer, inner = box_sides((0, 0, 0), (7, 7, 7)), box_sides((2, 1, 2), (5, 5, 5))
        for inside in (inner, turned(inner), inner + inner, turned(inner) * 2):
            self.assertGreater(self.check(outer + inside, points), 10)
        beside = box_sides((3, -2, 1), (9, 4, 4))
        self.assertGreater(self.check(outer + beside, points), 20)
        self.assertGreater(self.check(outer + turned(beside), points), 20)

    def test_surfaces_by_chance(self):
        chance = random.Random(1)
        within = 0
        for width, count in ((2, 3), (3, 2), (3, 4), (4, 3), (6, 3)):
            for turn in range(12):
                triangles = chance_surface(chance, width, count)
                points = [tuple(chance.randint(-width // 2, width // 2) for place in range(3)) for near in range(15)]
                within += self.check(triangles, points, SMALL[::3])
        self.assertGreater(within, 60)

    def test_numbers_near_the_bound(self):
        ways = SMALL[::5] + [(BIG, BIG - 1, 1), (1, -BIG, 2), (2 ** 199, 1, 1)]
        far = eight_sides((0, 0, 0), (BIG, 0, 0), (0, BIG, 0), (0, 0, BIG))
        points = [(0, 0, 0), (1, 2, 3), (BIG - 1, 0, 0), (-5, BIG - 6, 0), (BIG // 3, BIG // 3, BIG // 3 - 1),
                  (BIG // 3, BIG // 3, BIG // 3), (BIG, 0, 0), (BIG, 1, 0), (2 ** 199, 2 ** 199, 0)]
        self.assertEqual(self.check(far, points, ways), 5)
        sliver = four_sides((-BIG, -BIG, -BIG), (BIG, BIG, BIG), (BIG, BIG, BIG - 5), (BIG, BIG - 5, BIG))
        points = [(BIG - 1, BIG - 2, BIG - 2), (BIG - 1, BIG - 1, BIG - 1), (0, 0, 0), (BIG, BIG - 1, BIG - 1)]
        self.assertEqual(self.check(sliver, points, ways), 1)

    def test_a_point_on_it_is_met_at_once_whatever_the_way(self):
        triangles = four_sides((0, 0, 0), (6, 0, 0), (0, 6, 0), (0, 0, 6))
        scene = Scene([("triangle",) + triangle for triangle in triangles])
        for point in itertools.product(range(-1, 8), repeat=3):
            times = {(scene.first((point, way)) or (None,))[0] == (0, 1) for way in SMALL[::7]}
            self.assertEqual(times, {place_of(point, triangles) == 0})


class First(unittest.TestCase):
    def test_met_then_and_nothing_ahead_of_it(self):
        # Against the shapes' own meaning: times by weights and by trying, without the program's own.
        chance = random.Random(2)
        met = 0
        for space, count in ((2, 6), (3, 12), (5, 24), (BIG, 12)):
            for turn in range(12):
                shapes = []
                for number in range(count):
                    corners = [tuple(chance.randint(-space, space) for place in range(3)) for corner in range(3)]
                    box = ("box", tuple(map(min, *corners)), tuple(map(max, *corners)))
                    shapes.append(("triangle",) + tuple(corners) if number % 3 else box)
                scene = Scene(shapes)
                for look in range(12):
                    start = tuple(chance.randint(-space - 2, space + 2) for place in range(3))
                    way = plus(chance.choice(shapes)[look % 2 + 1], start, -1)
                    if way == (0, 0, 0):
                        continue
                    times = [time_by_trying((start, way), shape) for shape in shapes]
                    hits = sorted((Fraction(*time), number) for number, time in enumerate(times) if time is not None)
                    told = scene.every((start, way))
                    self.assertEqual([(Fraction(*time), number) for time, number in told], hits)
                    self.assertEqual(scene.first((start, way)), told[0] if told else None)
                    met += len(told) > 1
        self.assertGreater(met, 100)


if __name__ == "__main__":
    unittest.main()
