import copy
import itertools
import random
import unittest
from fractions import Fraction
from math import gcd

from firsthit.shapes import meets
from firsthit.triangles import meets_segment, meets_triangle

BIG = 2 ** 200 - 1
TRIANGLE = ((0, 0, 0), (4, 0, 0), (0, 4, 0))


def cleared(row, pivot, place):
    # The row with nothing left at the place, by a multiple above 0 of itself: so "not below 0" stays what it says.
    sign = 1 if pivot[place] > 0 else -1
    return [abs(pivot[place]) * mine - sign * row[place] * its for mine, its in zip(row, pivot)]


def without_weights(rows, count):
    # Fourier's and Motzkin's way: rows that are not below 0 and speak of no weight any more.
    for place in range(1, count + 1):
        above = [row for row in rows if row[place] > 0]
        below = [row for row in rows if row[place] < 0]
        rows = [row for row in rows if row[place] == 0]
        rows += [cleared(row, pivot, place) for row in below for pivot in above]
    return rows


def time_by_weights(ray, corners):
    """The least time at which the ray is at a mean of the corners with weights not below 0: what [11] calls
    within them, reckoned from rows (time, weights .., 1) without any product of vectors."""
    count = len(corners)
    equal = [[-way] + [corner[place] for corner in corners] + [-start]
             for place, (start, way) in enumerate(zip(*ray))] + [[0] + [1] * count + [-1]]
    rows = [[int(place == here) for place in range(count + 2)] for here in range(count + 1)]
    fixed = None
    while equal:
        pivot = equal.pop()
        places = [place for place in list(range(1, count + 1)) + [0] if pivot[place] != 0]
        if not places:
            if pivot[-1] != 0:
                return None
            continue
        if places[0] == 0:
            fixed = Fraction(-pivot[-1], pivot[0])
        equal = [cleared(row, pivot, places[0]) for row in equal]
        rows = [cleared(row, pivot, places[0]) for row in rows]
    rows = without_weights(rows, count)
    if any(row[0] == 0 and row[-1] < 0 for row in rows):
        return None
    if fixed is not None:
        return (fixed.numerator, fixed.denominator)
    least = max(Fraction(-row[-1], row[0]) for row in rows if row[0] > 0)
    if any(row[0] * least + row[-1] < 0 for row in rows):
        return None
    return (least.numerator, least.denominator)


def chance_cases(seed, count):
    # The seed is written, so these are the same cases each time; few numbers make many edges and corners meet.
    chance = random.Random(seed)
    for width, flat in itertools.product((1, 2, 5, BIG), (False, True)):
        for turn in range(4000):
            points = [tuple(chance.randint(-width, width) for place in range(3)) for point in range(count + 2)]
            if flat:
                # All in the plane z = x + y, the way too.
                points = [(x, y, x + y) for x, y, z in points]
            if points[1] != (0, 0, 0):
                yield (points[0], points[1]), tuple(points[2:])


class Segments(unittest.TestCase):
    def check(self, ray, one, other, time):
        for ends in ((one, other), (other, one)):
            with self.subTest(ray=ray, ends=ends):
                self.assertEqual(meets_segment(ray, *ends), time)

    def check_all(self, ray, rows):
        for one, other, time in rows:
            self.check(ray, one, other, time)

    def test_crossed_within(self):
        self.check_all(((0, 0, 0), (1, 0, 0)), (
            ((3, -1, 0), (3, 1, 0), (3, 1)),
            ((2, -2, 1), (6, 2, -1), (4, 1)),
            ((5, 0, -9), (5, 0, 1), (5, 1)),
        ))
        self.check(((1, 2, 3), (-1, 1, 2)), (0, 0, 5), (-2, 8, 9), (2, 1))

    def test_crossed_at_an_end(self):
        self.check_all(((0, 0, 0), (1, 0, 0)), (
            ((3, 0, 0), (3, 5, 2), (3, 1)),
            ((3, 0, 0), (1, -1, 0), (3, 1)),
            ((7, 0, 0), (9, 1, 1), (7, 1)),
        ))

    def test_missed_beside(self):
        self.check_all(((0, 0, 0), (1, 0, 0)), (
            ((3, 1, 0), (3, 5, 0), None),
            ((3, -1, 0), (3, -5, 0), None),
            ((3, -1, 1), (3, 1, 1), None),
            ((1, 2, 3), (9, -2, 1), None),
        ))

    def test_behind(self):
        self.check_all(((0, 0, 0), (1, 0, 0)), (
            ((-3, -1, 0), (-3, 1, 0), None),
            ((-1, 0, 0), (1, 5, 0), None),
        ))

    def test_the_start_on_it(self):
        self.check_all(((1, 1, 1), (3, -2, 0)), (
            ((0, 0, 0), (3, 3, 3), (0, 1)),
            ((1, 1, 1), (3, 3, 3), (0, 1)),
            ((1, 1, 1), (1, 1, 1), (0, 1)),
        ))

    def test_one_point(self):
        self.check_all(((0, 0, 0), (4, 0, 0)), (
            ((6, 0, 0), (6, 0, 0), (3, 2)),
            ((4, 0, 0), (4, 0, 0), (1, 1)),
            ((0, 0, 0), (0, 0, 0), (0, 1)),
            ((-4, 0, 0), (-4, 0, 0), None),
            ((4, 1, 0), (4, 1, 0), None),
            ((4, 0, -1), (4, 0, -1), None),
        ))
        self.check(((1, 1, 1), (2, -4, 6)), (2, -1, 4), (2, -1, 4), (1, 2))

    def test_along_the_ray_s_line(self):
        self.check_all(((0, 0, 0), (2, 0, 0)), (
            ((3, 0, 0), (5, 0, 0), (3, 2)),
            ((-5, 0, 0), (-3, 0, 0), None),
            ((-5, 0, 0), (3, 0, 0), (0, 1)),
            ((0, 0, 0), (3, 0, 0), (0, 1)),
            ((-3, 0, 0), (0, 0, 0), (0, 1)),
        ))
        self.check_all(((1, 1, 1), (-2, 4, 6)), (
            ((0, 3, 4), (-4, 11, 16), (1, 2)),
            ((2, -1, -2), (3, -3, -5), None),
            ((2, -1, -2), (0, 3, 4), (0, 1)),
        ))

    def test_parallel_to_the_way_beside_it(self):
        self.check_all(((0, 0, 0), (2, 0, 0)), (
            ((3, 1, 0), (5, 1, 0), None),
            ((-3, 0, 1), (5, 0, 1), None),
            ((-3, 1, 1), (-1, 1, 1), None),
        ))

    def test_times_that_are_no_whole_numbers(self):
        self.check(((0, 0, 0), (3, 0, 0)), (1, -1, 0), (1, 1, 0), (1, 3))
        self.check(((0, 0, 0), (1, 2, 0)), (0, 1, 0), (1, 0, 0), (1, 3))
        self.check(((0, 0, 0), (6, 0, 0)), (4, -1, 5), (4, 1, -5), (2, 3))
        self.check(((0, 0, 0), (5, 5, 0)), (0, 1, 0), (7, 2, 0), (7, 30))

    def test_numbers_near_the_bound(self):
        far = ((-BIG, -BIG, -BIG), (1, 1, 1))
        self.check(far, (BIG, BIG, -BIG), (BIG, BIG, BIG), (2 * BIG, 1))
        self.check(far, (BIG, BIG, -BIG), (BIG, BIG, BIG - 1), None)
        self.check(far, (BIG, -BIG, 0), (-BIG, BIG, 0), (BIG, 1))
        flat = ((0, 0, 0), (BIG, BIG - 1, 0))
        self.check(flat, (BIG - 1, -BIG, 0), (BIG - 1, BIG - 1, 0), (BIG - 1, BIG))
        self.check(flat, (BIG - 1, -BIG, 0), (BIG - 1, BIG - 2, 0), None)
        self.check(flat, (BIG - 1, BIG - 2, 0), (BIG - 1, BIG - 2, 0), None)
        self.check(flat, (BIG, BIG - 1, 0), (BIG, BIG - 1, 0), (1, 1))
        self.check(((-BIG, BIG, BIG), (2 ** 199, 0, 0)), (BIG, BIG, BIG), (0, BIG, BIG), (BIG, 2 ** 199))

    def test_against_weights(self):
        for ray, corners in chance_cases(12, 2):
            told = meets_segment(ray, *corners)
            if told != time_by_weights(ray, corners):
                self.fail((ray, corners, told))


class Triangles(unittest.TestCase):
    def check(self, ray, triangle, time):
        for corners in itertools.permutations(triangle):
            with self.subTest(ray=ray, corners=corners):
                self.assertEqual(meets_triangle(ray, corners), time)
                self.assertEqual(meets(ray, ("triangle",) + corners), time)

    def check_all(self, rows, triangle=TRIANGLE):
        for start, way, time in rows:
            self.check((start, way), triangle, time)

    def test_crossed_within(self):
        self.check_all((
            ((1, 1, 5), (0, 0, -2), (5, 2)),
            ((1, 1, -5), (0, 0, 1), (5, 1)),
            ((-2, 5, 3), (1, -1, -1), (3, 1)),
            ((9, 9, 6), (-4, -4, -3), (2, 1)),
        ))

    def test_crossed_on_an_edge(self):
        self.check_all((
            ((2, 0, 5), (0, 0, -1), (5, 1)),
            ((0, 2, 5), (0, 0, -1), (5, 1)),
            ((2, 2, 5), (0, 0, -1), (5, 1)),
            ((3, 1, -2), (0, 0, 4), (1, 2)),
            ((5, 2, 3), (-2, -2, -3), (1, 1)),
        ))

    def test_crossed_at_a_corner(self):
        self.check_all((
            ((0, 0, 5), (0, 0, -1), (5, 1)),
            ((4, 0, 5), (0, 0, -1), (5, 1)),
            ((0, 4, 5), (0, 0, -1), (5, 1)),
            ((5, 3, 2), (-1, -3, -2), (1, 1)),
        ))

    def test_just_outside(self):
        self.check_all((
            ((1, -1, 5), (0, 0, -1), None),
            ((-1, 1, 5), (0, 0, -1), None),
            ((3, 2, 5), (0, 0, -1), None),
            ((5, 0, 5), (0, 0, -1), None),
            ((0, 5, 5), (0, 0, -1), None),
            ((-1, -1, 5), (0, 0, -1), None),
            ((1, -1, 1), (0, BIG, -BIG), (1, BIG)),
            ((1, -1, 1), (0, BIG - 1, -BIG), None),
            ((-1, 1, 1), (BIG, 0, -BIG), (1, BIG)),
            ((-1, 1, 1), (BIG - 1, 0, -BIG), None),
            ((3, 2, 1), (-BIG, 0, -BIG), (1, BIG)),
            ((3, 2, 1), (1 - BIG, 0, -BIG), None),
        ))

    def test_the_start_in_it_on_an_edge_at_a_corner(self):
        ways = [way for way in itertools.product((-1, 0, 2), repeat=3) if way != (0, 0, 0)]
        for start in ((1, 1, 0), (1, 2, 0), (2, 0, 0), (0, 1, 0), (3, 1, 0), (0, 0, 0), (4, 0, 0), (0, 4, 0)):
            self.check_all([(start, way, (0, 1)) for way in ways])

    def test_the_way_along_its_plane_in_it(self):
        self.check_all((
            ((-2, 1, 0), (1, 0, 0), (2, 1)),
            ((1, -3, 0), (0, 2, 0), (3, 2)),
            ((4, 4, 0), (-3, -1, 0), (1, 1)),
            ((9, 1, 0), (-4, 0, 0), (3, 2)),
            ((-1, 1, 0), (-1, 0, 0), None),
            ((3, 2, 0), (1, 0, 0), None),
            ((-1, 5, 0), (1, 0, 0), None),
            ((-1, 4, 0), (1, 1, 0), None),
        ))

    def test_the_way_along_its_plane_meeting_a_corner_first(self):
        self.check_all((
            ((-1, -1, 0), (1, 1, 0), (1, 1)),
            ((-1, 3, 0), (1, 1, 0), (1, 1)),
            ((0, 9, 0), (0, -2, 0), (5, 2)),
            ((-3, 0, 0), (2, 0, 0), (3, 2)),
            ((6, -2, 0), (-1, 1, 0), (2, 1)),
            ((6, 1, 0), (-2, -1, 0), (1, 1)),
        ))

    def test_the_way_along_its_plane_beside_it(self):
        self.check_all((
            ((-2, 1, 1), (1, 0, 0), None),
            ((-2, 1, -1), (1, 0, 0), None),
            ((1, 1, 1), (1, 2, 0), None),
            ((2, 0, -1), (1, 0, 0), None),
        ))

    def test_the_plane_behind_the_ray(self):
        self.check_all((
            ((1, 1, 5), (0, 0, 1), None),
            ((1, 1, -1), (0, 0, -1), None),
            ((2, 2, 1), (1, 1, 1), None),
        ))

    def test_corners_on_a_line(self):
        self.check_all((
            ((2, 5, 1), (0, -1, 0), (5, 1)),
            ((6, 5, 1), (0, -2, 0), (5, 2)),
            ((0, 5, 1), (0, -1, 0), (5, 1)),
            ((8, 5, 1), (0, -1, 0), (5, 1)),
            ((4, 5, 1), (0, -1, 0), (5, 1)),
            ((9, 5, 1), (0, -1, 0), None),
            ((-1, 5, 1), (0, -1, 0), None),
            ((2, 5, 2), (0, -1, 0), None),
            ((-3, 0, 1), (2, 0, 0), (3, 2)),
            ((11, 0, 1), (-1, 0, 0), (3, 1)),
            ((3, 0, 1), (1, 0, 0), (0, 1)),
            ((9, 0, 1), (1, 0, 0), None),
            ((6, 0, 1), (1, 1, 1), (0, 1)),
        ), ((0, 0, 1), (4, 0, 1), (8, 0, 1)))
        self.check(((0, 6, 6), (3, -2, -2)), ((1, 1, 1), (4, 4, 4), (2, 2, 2)), (6, 5))
        self.check(((0, 6, 6), (3, -2, -3)), ((1, 1, 1), (4, 4, 4), (2, 2, 2)), None)
        self.check(((0, 6, 6), (3, -3, -3)), ((1, 1, 1), (4, 4, 4), (2, 2, 2)), (1, 1))

    def test_two_corners_alike(self):
        self.check_all((
            ((2, 5, 1), (0, -1, 0), (5, 1)),
            ((0, 5, 1), (0, -1, 0), (5, 1)),
            ((4, 5, 1), (0, -1, 0), (5, 1)),
            ((5, 5, 1), (0, -1, 0), None),
            ((6, 0, 1), (-4, 0, 0), (1, 2)),
        ), ((0, 0, 1), (4, 0, 1), (4, 0, 1)))

    def test_all_corners_alike(self):
        self.check_all((
            ((0, 0, 0), (2, 4, 6), (1, 2)),
            ((1, 2, 3), (5, 0, 0), (0, 1)),
            ((0, 0, 0), (2, 4, 5), None),
            ((0, 0, 0), (-1, -2, -3), None),
        ), ((1, 2, 3), (1, 2, 3), (1, 2, 3)))

    def test_numbers_near_the_bound(self):
        wide = ((-BIG, -BIG, BIG), (BIG, -BIG, BIG), (BIG, BIG, BIG))
        self.check_all((
            ((0, 0, -BIG), (0, 0, 1), (2 * BIG, 1)),
            ((-1, 0, -BIG), (0, 0, 1), None),
            ((-1, 0, -BIG), (1, 0, 2 * BIG), (1, 1)),
            ((0, 0, 0), (BIG, BIG, BIG), (1, 1)),
            ((0, 0, 0), (BIG - 1, BIG, BIG), None),
            ((0, 0, 0), (BIG, BIG, BIG - 1), None),
            ((0, 0, 0), (BIG - 1, BIG - 1, BIG - 1), (BIG, BIG - 1)),
            ((BIG, BIG, BIG), (1, 0, 0), (0, 1)),
            ((-BIG, BIG, BIG), (BIG, -BIG, 0), (1, 1)),
            ((-BIG, BIG, BIG), (BIG, 1 - BIG, 0), (2 * BIG, 2 * BIG - 1)),
            ((-BIG, BIG, BIG - 1), (BIG, -BIG, 0), None),
        ), wide)
        thin = ((0, 0, 0), (BIG, BIG - 1, 0), (BIG - 1, BIG - 2, 0))
        self.check_all((
            ((BIG - 1, BIG - 2, 7), (0, 0, -7), (1, 1)),
            ((BIG - 2, BIG - 3, 7), (0, 0, -7), None),
            ((BIG - 1, BIG - 1, 7), (0, 0, -7), None),
            ((2, 1, 0), (1, 1, 0), (BIG - 3, 1)),
        ), thin)

    def test_no_ray_slips_through_a_seam(self):
        # All ways from above to points of the edge that the two triangles share.
        left = ((0, 0, 0), (7, 5, 3), (-4, 9, 1))
        right = ((7, 5, 3), (0, 0, 0), (9, -3, 2))
        for start in itertools.product((-9, 0, 4), (-2, 3), (25, 31)):
            for share in range(8):
                way = tuple(share * corner - 7 * here for corner, here in zip((7, 5, 3), start))
                with self.subTest(start=start, share=share):
                    self.check((start, way), left, (1, 7))
                    self.check((start, way), right, (1, 7))

    def test_against_weights(self):
        for ray, corners in chance_cases(34, 3):
            told = meets_triangle(ray, corners)
            if told != time_by_weights(ray, corners):
                self.fail((ray, corners, told))


class Kinds(unittest.TestCase):
    def test_kinds_of_what_is_told(self):
        slant = ((9, 0, 0), (0, 9, 0), (0, 0, 9))
        times = [meets_triangle(((1, 1, 1), way), slant) for way in itertools.product((1, 2, 6), repeat=3)]
        times += [meets_segment(((0, 0, 0), (6, 6, 0)), (step, 0, 0), (0, step, 0)) for step in range(1, 9)]
        times += [meets_segment(((0, 0, 0), (-6, 0, 0)), (-step, 0, 0), (-9, 0, 0)) for step in range(9)]
        for time in times:
            with self.subTest(time=time):
                self.assertIs(type(time), tuple)
                self.assertEqual([type(number) for number in time], [int, int])
                self.assertGreater(time[1], 0)
                self.assertEqual(gcd(*time), 1)

    def test_what_is_handed_in_stays(self):
        ray = ((-1, 1, 1), (2, 0, -3))
        before = copy.deepcopy((ray, TRIANGLE))
        for turn in range(2):
            self.assertEqual(meets_triangle(ray, TRIANGLE), None)
            self.assertEqual(meets_segment(ray, (1, 1, -2), (1, 9, -2)), (1, 1))
            self.assertEqual((ray, TRIANGLE), before)


if __name__ == "__main__":
    unittest.main()
