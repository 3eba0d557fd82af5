import copy
import itertools
import math
import random
import unittest

from firsthit.errors import HitError, NotClosed
from firsthit.surfaces import is_closed, place_of, six_volume
from firsthit.triangles import meets_segment
from test_triangles import time_by_weights

BIG = 2 ** 200 - 1
CORNERS = ((0, 0, 0), (6, 0, 0), (0, 6, 0), (0, 0, 6))
AXES = ((1, 0, 0), (0, 1, 0), (0, 0, 1))
LINE = ((1, 1, 1), (2, 3, 4), (3, 5, 7))
WAYS = [way for way in itertools.product((-1, 0, 1), repeat=3) if way != (0, 0, 0)] + [
    (3, 5, 7), (-2, 1, 9), (1, 1000, 1000000), (1000000, 1000, 1), (997, 991, -983), (2 ** 64, 2 ** 32, 1),
    (1, 2 ** 100, 2 ** 199), (2 ** 199, 2 ** 100, 1), (BIG, BIG - 1, BIG - 2), (-BIG, 1, 1), (1, -1, BIG),
    (2 ** 400, 2 ** 200, 1), (1, 2 ** 200, 2 ** 400), (BIG * BIG, BIG, 1), (BIG * BIG, -BIG, 1),
]


def plus(one, other, times=1):
    return tuple(here + times * step for here, step in zip(one, other))


def four_sides(a, b, c, d):
    return [(a, c, b), (a, b, d), (b, c, d), (a, d, c)]


def box_sides(low, high):
    corner = list(itertools.product(*zip(low, high)))
    sides = ((0, 1, 3, 2), (4, 6, 7, 5), (0, 4, 5, 1), (2, 3, 7, 6), (0, 2, 6, 4), (1, 5, 7, 3))
    told = []
    for a, b, c, d in sides:
        told += [(corner[a], corner[b], corner[c]), (corner[a], corner[c], corner[d])]
    return told


def fine_box(half):
    """The cube of all points whose numbers are at most half in size, each side in fields of 1 by 1."""
    told = []
    for place, sign in itertools.product(range(3), (-1, 1)):
        for x, y in itertools.product(range(-half, half), repeat=2):
            field = [(x, y, sign * half), (x + 1, y, sign * half), (x + 1, y + 1, sign * half), (x, y + 1, sign * half)]
            a, b, c, d = [corner[place:] + corner[:place] for corner in field[::sign]]
            told += [(a, b, c), (a, c, d)]
    return told


def six_corners(*pairs):
    """Eight triangles, with one corner of each of three pairs."""
    told = []
    for one, two, three in itertools.product((0, 1), repeat=3):
        corners = (pairs[0][one], pairs[1][two], pairs[2][three])
        told.append(corners[::-1] if (one + two + three) % 2 else corners)
    return told


def eight_sides(middle, u, v, w):
    """Corners at the middle and u, v, w from there, both ways."""
    return six_corners(*[(plus(middle, way), plus(middle, way, -1)) for way in (u, v, w)])


def turned(triangles):
    return [(a, c, b) for a, b, c in triangles]


def moved(triangles, way):
    return [tuple(plus(corner, way) for corner in triangle) for triangle in triangles]


def determinant(rows):
    told = 0
    for order in itertools.permutations(range(3)):
        turns = sum(order[i] > order[j] for i, j in ((0, 1), (0, 2), (1, 2)))
        told += (-1) ** turns * rows[0][order[0]] * rows[1][order[1]] * rows[2][order[2]]
    return told


def is_on_by_weights(point, triangle):
    return time_by_weights((point, (1, 2, -5)), triangle) == (0, 1)


def around_by_angles(point, triangles):
    """How often a surface goes around a point on none of its triangles, from what each covers of the view from
    there: no ray is tried. With rounded numbers, so for small ones alone."""
    angles = 0
    for triangle in triangles:
        a, b, c = [plus(corner, point, -1) for corner in triangle]
        far = [math.sqrt(sum(number * number for number in way)) for way in (a, b, c)]
        dots = [sum(x * y for x, y in zip(*pair)) for pair in ((b, c), (c, a), (a, b))]
        under = far[0] * far[1] * far[2] + sum(length * product for length, product in zip(far, dots))
        top = determinant((a, b, c))
        if top != 0:
            angles += 2 * math.atan2(top, under)
    around = angles / (4 * math.pi)
    if abs(around - round(around)) > 0.001:
        raise AssertionError((point, triangles, around))
    return round(around)


def around_by_ray(point, triangles, way):
    """The same by the words of [32], along the one ray; None where it meets an edge."""
    told = 0
    for a, b, c in triangles:
        for one, other in ((a, b), (b, c), (c, a)):
            if meets_segment((point, way), one, other) is not None:
                return None
        if time_by_weights((point, way), (a, b, c)) is not None:
            # Of a triangle that is met within, turning against the clock seen from the ray's far end.
            told += 1 if determinant((way, plus(b, a, -1), plus(c, a, -1))) > 0 else -1
    return told


def chance_point(chance, width):
    return tuple(chance.randint(-width, width) for place in range(3))


def chance_surface(chance, width, count):
    triangles = []
    for turn in range(count):
        corners = [chance_point(chance, width) for corner in range(6)]
        triangles += four_sides(*corners[:4]) if turn % 2 else six_corners(corners[:2], corners[2:4], corners[4:])
    chance.shuffle(triangles)
    return [triangle[turn:] + triangle[:turn] for turn, triangle in zip(itertools.cycle(range(3)), triangles)]


SOLIDS = {
    "four corners": four_sides(*CORNERS),
    "a box": box_sides((-1, 0, 2), (3, 5, 9)),
    "eight sides": eight_sides((1, 2, 3), (4, 0, 0), (0, 4, 0), (0, 0, 4)),
    "a fine box": fine_box(2),
    "far corners": four_sides((-BIG, -BIG, -BIG), (BIG, 0, 1), (0, BIG, 2), (3, 0, BIG)),
}
FLAT = {
    "four corners in a plane": four_sides((0, 0, 3), (6, 0, 3), (0, 6, 3), (6, 6, 3)),
    "four corners, one within the others": four_sides((0, 0, 3), (6, 0, 3), (0, 6, 3), (1, 1, 3)),
    "a flat box": box_sides((0, 0, 3), (4, 4, 3)),
    "a box that is a segment": box_sides((0, 3, 3), (4, 3, 3)),
    "a box that is a point": box_sides((3, 3, 3), (3, 3, 3)),
    "both ways": [((0, 0, 3), (6, 0, 3), (0, 6, 3)), ((0, 6, 3), (6, 0, 3), (0, 0, 3))],
}
CLOSED = {**SOLIDS, **FLAT}


class Closed(unittest.TestCase):
    def check(self, triangles, closed):
        self.assertIs(is_closed(triangles), closed)
        self.assertIs(is_closed(turned(triangles)), closed)
        self.assertIs(is_closed(triangles[::-1]), closed)
        self.assertIs(is_closed([triangle[1:] + triangle[:1] for triangle in triangles]), closed)
        self.assertIs(is_closed(triangles + triangles), closed)

    def test_sides_turned_either_way_and_flat(self):
        for name, triangles in CLOSED.items():
            with self.subTest(name=name):
                self.check(triangles, True)

    def test_no_triangles_at_all(self):
        self.check([], True)

    def test_one_left_out(self):
        for name, triangles in SOLIDS.items():
            for place in range(len(triangles)):
                with self.subTest(name=name, place=place):
                    self.check(triangles[:place] + triangles[place + 1:], False)

    def test_one_turned_about(self):
        for name, triangles in SOLIDS.items():
            for place in range(len(triangles)):
                with self.subTest(name=name, place=place):
                    self.check(triangles[:place] + turned(triangles[place:place + 1]) + triangles[place + 1:], False)

    def test_one_told_from_another_corner(self):
        for name, triangles in CLOSED.items():
            for place, (a, b, c) in enumerate(triangles):
                with self.subTest(name=name, place=place):
                    self.check(triangles[:place] + [(b, c, a)] + triangles[place + 1:], True)
                    self.check(triangles[:place] + [(c, a, b)] + triangles[place + 1:], True)

    def test_one_twice_and_one_both_ways(self):
        for name, triangles in SOLIDS.items():
            for place, triangle in enumerate(triangles):
                with self.subTest(name=name, place=place):
                    self.check(triangles + [triangle], False)
                    self.check(triangles + [triangle] + turned([triangle]), True)
        self.check([CORNERS[:3]], False)
        self.check([CORNERS[:3], CORNERS[:3]], False)
        self.check([CORNERS[:3]] + turned([CORNERS[:3]]), True)
        self.check([CORNERS[:3]] * 3 + turned([CORNERS[:3]]) * 3, True)
        self.check([CORNERS[:3]] * 3 + turned([CORNERS[:3]]) * 2, False)

    def test_corners_on_a_line(self):
        a, b, c = LINE
        self.check([(a, b, c)], False)
        self.check([(a, c, b)], False)
        self.check([(a, b, c), (c, b, a)], True)
        # The edges of such a one go there and back by themselves.
        self.check([(a, a, b)], True)
        self.check([(a, b, a)], True)
        self.check([(a, b, b)], True)
        self.check([(a, a, a)], True)
        self.check([(a, a, a), (b, b, b), (a, a, b)], True)
        for triangle in ((a, a, b), (a, a, a), (CORNERS[0], CORNERS[1], CORNERS[1])):
            self.check(four_sides(*CORNERS) + [triangle], True)
            self.check(four_sides(*CORNERS)[1:] + [triangle], False)

    def test_edges_count_by_their_points_not_by_where_they_lie(self):
        a, b, c, d = CORNERS
        middle = (3, 0, 0)
        sides = [(a, c, b), (a, middle, d), (middle, b, d), (b, c, d), (a, d, c)]
        self.check(sides, False)
        # One with its corners on a line sews the edge that one side has whole and the other in halves.
        self.check(sides + [(a, b, middle)], True)
        self.check(sides + [(a, middle, b)], False)
        self.check([(a, c, middle), (middle, c, b)] + sides[1:], True)

    def test_surfaces_that_share_corners_and_edges(self):
        a, b, c, d = CORNERS
        other = four_sides(a, b, (0, -6, 0), (0, 0, -6))
        self.check(four_sides(a, b, c, d) + other, True)
        self.check(four_sides(a, b, c, d) + turned(other), True)
        self.check(four_sides(a, b, c, d) + other[1:], False)
        # The side that both have lies within and is told both ways: it may as well be left out.
        two = four_sides(a, b, c, d) + four_sides(a, c, b, (0, 0, -6))
        self.check(two, True)
        self.check([triangle for triangle in two if set(triangle) != {a, b, c}], True)
        self.check(two[1:], False)

    def test_as_many_there_as_back_not_just_some(self):
        # Each edge has one that goes back, but some have more that go there.
        a, b, c, d = CORNERS
        self.check([(a, b, c)] * 2 + [(a, c, b)], False)
        self.check(four_sides(a, b, c, d) + [(a, c, b)], False)
        self.check(four_sides(a, b, c, d) + turned(four_sides(a, b, c, d))[:2], False)

    def test_numbers_near_the_bound(self):
        a, b, c, d = [(BIG, BIG, BIG), (-BIG, BIG, BIG), (BIG, -BIG, BIG), (BIG, BIG, -BIG)]
        self.check(four_sides(a, b, c, d), True)
        self.check(four_sides(a, b, c, d)[:3] + [(a, (BIG, BIG, 1 - BIG), c)], False)
        # Points that only their last figure tells apart.
        near = [(BIG, BIG, BIG), (BIG - 1, BIG, BIG), (BIG, BIG - 1, BIG), (BIG, BIG, BIG - 1)]
        self.check(four_sides(*near), True)
        self.check(four_sides(*near)[1:] + [(near[0], near[2], near[3])], False)
        self.check([(a, b, (BIG, BIG, -BIG)), (a, (BIG, BIG, -BIG), b)], True)
        self.check([(a, b, (BIG, BIG, -BIG)), (a, (BIG, BIG, -BIG - 1), b)], False)

    def test_against_counting_all_pairs(self):
        chance = random.Random(30)
        told = []
        for turn in range(400):
            triangles = chance_surface(chance, 1, 2)
            if turn % 2:
                triangles[chance.randrange(len(triangles))] = tuple(chance_point(chance, 1) for corner in range(3))
            if turn % 3 == 0:
                triangles += turned(chance_surface(chance, 1, 2)[:chance.randint(0, 2)])
            edges = [edge for a, b, c in triangles for edge in ((a, b), (b, c), (c, a))]
            points = sorted({point for edge in edges for point in edge})
            closed = all(edges.count((one, other)) == edges.count((other, one))
                         for one, other in itertools.combinations(points, 2))
            self.check(triangles, closed)
            told.append(closed)
        self.assertGreater(told.count(True), 50)
        self.assertGreater(told.count(False), 50)


class Volumes(unittest.TestCase):
    def check(self, triangles, volume):
        self.assertEqual(six_volume(triangles), volume)
        self.assertIs(type(six_volume(triangles)), int)
        self.assertEqual(six_volume(turned(triangles)), -volume)
        self.assertEqual(six_volume(triangles[::-1]), volume)
        self.assertEqual(six_volume([triangle[1:] + triangle[:1] for triangle in triangles]), volume)
        self.assertEqual(six_volume([triangle[2:] + triangle[:2] for triangle in triangles]), volume)
        self.assertEqual(six_volume(triangles + triangles), 2 * volume)
        self.assertEqual(six_volume(triangles + turned(triangles)), 0)

    def test_what_solids_hold(self):
        self.check(SOLIDS["four corners"], 216)
        self.check(SOLIDS["a box"], 6 * 4 * 5 * 7)
        self.check(SOLIDS["eight sides"], 8 * 64)
        self.check(SOLIDS["a fine box"], 6 * 64)
        self.check(four_sides((1, 1, 1), (2, 1, 1), (1, 2, 1), (1, 1, 2)), 1)
        self.check(box_sides((0, 0, 0), (1, 1, 1)), 6)

    def test_flat_ones_hold_nothing(self):
        for name, triangles in FLAT.items():
            with self.subTest(name=name):
                self.check(triangles, 0)

    def test_no_triangles_at_all(self):
        self.check([], 0)

    def test_one_triangle_by_its_corners_as_rows(self):
        self.check([((1, 0, 0), (0, 1, 0), (0, 0, 1))], 1)
        self.check([((0, 1, 0), (1, 0, 0), (0, 0, 1))], -1)
        self.check([((2, 3, 5), (7, 11, 13), (17, 19, 23))], -78)
        self.check([((0, 0, 0), (7, 11, 13), (17, 19, 23))], 0)
        self.check([LINE], 0)
        self.check([((1, 2, 3), (1, 2, 3), (5, 7, 1))], 0)
        self.check([((4, 4, 4), (4, 4, 4), (4, 4, 4))], 0)

    def test_one_left_out_or_turned_about(self):
        for name, triangles in CLOSED.items():
            whole = six_volume(triangles)
            for place, triangle in enumerate(triangles):
                with self.subTest(name=name, place=place):
                    own = determinant(triangle)
                    rest = triangles[:place] + triangles[place + 1:]
                    self.check(rest, whole - own)
                    self.check(rest + [triangle] * 3, whole + 2 * own)
                    self.check(rest + turned([triangle]), whole - 2 * own)

    def test_moved_closed_ones_keep_it(self):
        for name, triangles in CLOSED.items():
            for way in ((1, 0, 0), (-7, 3, 11), (BIG, -BIG, 1), (BIG, BIG, BIG)):
                with self.subTest(name=name, way=way):
                    self.check(moved(triangles, way), six_volume(triangles))
        # One that isn't closed has no such volume.
        self.assertNotEqual(six_volume(moved([CORNERS[:3]], (0, 0, 1))), six_volume([CORNERS[:3]]))

    def test_numbers_near_the_bound(self):
        self.check([((BIG, 0, 0), (0, BIG, 0), (0, 0, BIG))], BIG ** 3)
        self.check([((BIG, BIG, -BIG), (BIG, -BIG, BIG), (-BIG, BIG, BIG))], -4 * BIG ** 3)
        self.check(box_sides((-BIG, -BIG, -BIG), (BIG, BIG, BIG)), 48 * BIG ** 3)
        near = [(BIG, BIG, BIG), (BIG - 1, BIG, BIG), (BIG, BIG - 1, BIG), (BIG, BIG, BIG - 1)]
        self.check(four_sides(*near), -1)

    def test_against_determinants(self):
        chance = random.Random(31)
        for width in (1, 5, 1000, BIG):
            for turn in range(60):
                count = chance.randint(1, 6)
                triangles = [tuple(chance_point(chance, width) for corner in range(3)) for number in range(count)]
                self.check(triangles, sum(map(determinant, triangles)))


class Places(unittest.TestCase):
    def check(self, triangles, rows):
        for point, place in rows:
            with self.subTest(point=point):
                self.assertEqual(place_of(point, triangles), place)
                self.assertIs(type(place_of(point, triangles)), int)
                # Inside out it goes around as often the other way, which is not at all in the same cases.
                self.assertEqual(place_of(point, turned(triangles)), place)
                self.assertEqual(place_of(point, triangles[::-1]), place)
                self.assertEqual(place_of(point, triangles + triangles), place)
                self.assertEqual(place_of(point, triangles + turned(triangles)), 0 if place == 0 else -1)

    def test_four_corners(self):
        self.check(SOLIDS["four corners"], (
            ((1, 1, 1), 1),
            ((1, 2, 2), 1),
            ((3, 1, 1), 1),
            ((2, 2, 2), 0),
            ((1, 1, 0), 0),
            ((0, 2, 3), 0),
            ((3, 0, 0), 0),
            ((3, 3, 0), 0),
            ((0, 0, 0), 0),
            ((0, 6, 0), 0),
            ((2, 2, 3), -1),
            ((-1, 1, 1), -1),
            ((1, 1, -1), -1),
            ((7, 0, 0), -1),
            ((9, 9, 9), -1),
            ((-9, 1, 1), -1),
            ((-9, 2, 2), -1),
            ((-9, 0, 0), -1),
        ))

    def test_a_box(self):
        triangles = box_sides((0, 0, 0), (4, 4, 4))
        for point in itertools.product(range(-2, 7), repeat=3):
            inside = all(0 < number < 4 for number in point)
            touching = all(0 <= number <= 4 for number in point)
            self.check(triangles, ((point, 1 if inside else 0 if touching else -1),))

    def test_a_fine_box_with_a_corner_or_an_edge_on_every_small_ray(self):
        for half, numbers in ((1, range(-3, 4)), (2, range(-4, 5)), (3, (-5, -3, -2, 0, 1, 3, 4))):
            triangles = fine_box(half)
            for point in itertools.product(numbers, repeat=3):
                size = max(map(abs, point))
                place = 1 if size < half else 0 if size == half else -1
                if place_of(point, triangles) != place:
                    self.fail((half, point, place))

    def test_outside_in_a_triangle_s_plane(self):
        self.check(SOLIDS["four corners"], (
            ((-1, 1, 0), -1),
            ((1, -1, 0), -1),
            ((-5, -5, 0), -1),
            ((0, 7, 1), -1),
            ((0, -3, 2), -1),
            ((-1, 0, 2), -1),
            ((-1, 0, 0), -1),
            ((0, -1, 0), -1),
            ((0, 0, -1), -1),
            ((-1, 6, 1), -1),
            ((8, -1, -1), -1),
        ))
        for point in ((-BIG, 0, 0), (-BIG, 1, 0), (-BIG, 0, 1), (0, -BIG, 0), (0, 0, -BIG), (1, 0, -BIG)):
            self.check(SOLIDS["four corners"], ((point, -1),))

    def test_flat_ones_go_around_nothing(self):
        for name, triangles in FLAT.items():
            for point in itertools.product((-1, 0, 1, 2, 3, 4, 7), (-1, 0, 1, 3, 4, 6), (2, 3, 4)):
                touching = any(is_on_by_weights(point, triangle) for triangle in triangles)
                with self.subTest(name=name, point=point):
                    self.assertEqual(place_of(point, triangles), 0 if touching else -1)

    def test_no_triangles(self):
        self.check([], (((0, 0, 0), -1), ((BIG, -BIG, 3), -1)))

    def test_triangles_that_are_segments_or_points(self):
        a, b = (1, 1, 1), (5, 5, 5)
        self.check([(a, a, b)], ((a, 0), (b, 0), ((3, 3, 3), 0), ((0, 0, 0), -1), ((6, 6, 6), -1), ((3, 3, 4), -1)))
        self.check([(a, a, a)], ((a, 0), ((0, 1, 1), -1), ((2, 1, 1), -1)))
        self.check([LINE, LINE[::-1]], ((LINE[0], 0), (LINE[1], 0), ((0, -1, -2), -1), ((2, 3, 5), -1)))
        # Within a solid they are on, and take nothing away about them.
        solid = box_sides((0, 0, 0), (9, 9, 9)) + [(a, b, b), ((7, 2, 2),) * 3]
        self.check(solid, ((a, 0), ((4, 4, 4), 0), ((7, 2, 2), 0), ((6, 6, 6), 1), ((6, 2, 2), 1), ((-1, 2, 2), -1)))
        sewn = [((0, 0, 0), (0, 6, 0), (6, 0, 0)), ((0, 0, 0), (3, 0, 0), (0, 0, 6)), ((3, 0, 0), (6, 0, 0), (0, 0, 6)),
                ((6, 0, 0), (0, 6, 0), (0, 0, 6)), ((0, 0, 0), (0, 0, 6), (0, 6, 0)), ((0, 0, 0), (6, 0, 0), (3, 0, 0))]
        self.check(sewn, (((1, 1, 1), 1), ((3, 0, 0), 0), ((2, 0, 0), 0), ((3, -1, 0), -1), ((-9, 0, 0), -1)))

    def test_surfaces_within_one_another(self):
        outer, inner = box_sides((0, 0, 0), (9, 9, 9)), box_sides((3, 3, 3), (6, 6, 6))
        both = (((4, 4, 4), 1), ((1, 4, 4), 1), ((3, 4, 4), 0), ((6, 6, 6), 0), ((0, 4, 4), 0), ((-1, 4, 4), -1))
        self.check(outer + inner, both)
        # One turned the other way leaves a hollow.
        self.check(outer + turned(inner), (((4, 4, 4), -1),) + both[1:])
        self.check(outer + outer + turned(inner), both)
        self.check(outer + turned(inner) + turned(inner), both)

    def test_surfaces_that_cross(self):
        one, other = box_sides((0, 0, 0), (6, 6, 6)), box_sides((3, 3, 3), (9, 9, 9))
        rows = (((1, 1, 1), 1), ((8, 8, 8), 1), ((3, 4, 4), 0), ((6, 6, 6), 0), ((3, 3, 3), 0), ((7, 1, 1), -1))
        self.check(one + other, rows + (((4, 4, 4), 1),))
        self.check(one + turned(other), rows + (((4, 4, 4), -1),))

    def test_twice_the_same_and_once_each_way(self):
        for name, triangles in SOLIDS.items():
            point = {"a box": (1, 2, 3)}.get(name, (1, 1, 1))
            with self.subTest(name=name):
                self.assertEqual(place_of(point, triangles), 1)
                self.assertEqual(place_of(point, turned(triangles)), 1)
                self.assertEqual(place_of(point, triangles * 2), 1)
                self.assertEqual(place_of(point, triangles + turned(triangles)), -1)
                self.assertEqual(place_of(point, triangles * 2 + turned(triangles)), 1)
                self.assertEqual(place_of(point, triangles * 2 + turned(triangles) * 2), -1)
                self.assertEqual(place_of(triangles[0][0], triangles + turned(triangles)), 0)

    def check_about(self, triangles, middle, way):
        # From the middle, and from ahead of the surface and behind it, the ray of that way hits what it may not.
        with self.subTest(middle=middle, way=way):
            self.assertTrue(is_closed(triangles))
            self.assertEqual(place_of(middle, triangles), 1)
            self.assertEqual(place_of(middle, turned(triangles)), 1)
            for far in (-9, -4, 4, 9):
                self.assertEqual(place_of(plus(middle, way, far), triangles), -1)

    def test_corners_and_edges_on_any_ray(self):
        for way, middle in itertools.product(WAYS, ((0, 0, 0), (1, -2, 3), (BIG, -BIG, BIG - 5))):
            u, v = next(pair for pair in itertools.combinations(AXES, 2) if determinant((way,) + pair) != 0)
            for far in (1, 3):
                ahead = tuple(far * number for number in way)
                self.check_about(eight_sides(middle, ahead, u, v), middle, ahead)
                # Two corners beside the ray, so that the edge between them crosses it.
                self.check_about(eight_sides(middle, plus(ahead, u), plus(ahead, u, -1), v), middle, ahead)
                self.check_along(middle, ahead, u, v)

    def check_along(self, middle, ahead, u, v):
        # An edge lies along the ray.
        a, b = plus(middle, ahead), plus(middle, ahead, 3)
        triangles = four_sides(a, b, plus(b, u), plus(b, v))
        with self.subTest(middle=middle, ahead=ahead):
            for far, place in ((-1, -1), (0, -1), (1, 0), (2, 0), (3, 0), (4, -1)):
                self.assertEqual(place_of(plus(middle, ahead, far), triangles), place)
            self.assertEqual(place_of(plus(middle, plus(u, v), 9), triangles), -1)

    def test_edges_across_the_axes_far_away(self):
        # Edges in the planes of two axes, through the first axis or the others, at any distance.
        for far in (1, 2, 1000, 2 ** 100, BIG, 2 ** 210):
            for axes in itertools.permutations(AXES):
                one, two, three = [tuple(far * number for number in axis) for axis in axes]
                for u, v, w in ((one, two, three), (plus(one, two), plus(one, two, -1), three),
                                (plus(one, three), plus(one, three, -1), two),
                                (plus(plus(one, two), three), plus(one, two, -1), plus(one, three, -1))):
                    triangles = eight_sides((0, 0, 0), u, v, w)
                    self.assertNotEqual(determinant((u, v, w)), 0)
                    self.assertEqual(place_of((0, 0, 0), triangles), 1)
                    for way in (u, v, w, one, two, three):
                        self.assertEqual(place_of(tuple(-3 * number for number in way), triangles), -1)

    def test_far_corners_and_little_slivers(self):
        self.check(SOLIDS["far corners"], (
            ((0, 0, 0), 1),
            ((-BIG, -BIG, -BIG), 0),
            ((1 - BIG, 1 - BIG, 1 - BIG), 1),
            ((-BIG, -BIG, 1 - BIG), -1),
            ((BIG, 0, 1), 0),
            ((BIG, 0, 0), -1),
            ((BIG, BIG, BIG), -1),
        ))
        # 2 wide at its foot, and BIG long: beside (1, 1, k) it is soon too thin for a whole number.
        sliver = four_sides((0, 0, 0), (4, 0, 0), (0, 4, 0), (1, 1, BIG))
        self.check(sliver, (((1, 1, 1), 1), ((1, 1, BIG - 1), 1), ((1, 1, BIG), 0), ((1, 1, BIG + 1), -1),
                            ((1, 1, 0), 0), ((1, 2, 1), 1), ((1, 2, BIG - 1), -1), ((1, 1, -1), -1)))

    def test_not_closed(self):
        a, b, c, d = CORNERS
        for triangles in ([(a, b, c)], four_sides(a, b, c, d)[1:], four_sides(a, b, c, d) + [(a, b, c)],
                          [LINE], box_sides((0, 0, 0), (9, 9, 9)) + [(a, b, c)]):
            before = copy.deepcopy(triangles)
            # Within, outside, on a side, an edge, a corner.
            for point in ((1, 1, 1), (-5, 3, 3), (2, 2, 2), (1, 1, 0), (3, 0, 0), a, LINE[1], (BIG, BIG, BIG)):
                with self.subTest(triangles=triangles, point=point):
                    with self.assertRaises(HitError) as taken:
                        place_of(point, triangles)
                    self.assertIs(type(taken.exception), NotClosed)
                    self.assertEqual(triangles, before)

    def test_against_angles(self):
        chance = random.Random(32)
        told = []
        for width, count, turns in ((1, 1, 30), (2, 2, 30), (2, 4, 20), (3, 7, 10), (5, 4, 20), (8, 6, 20)):
            for turn in range(turns):
                triangles = chance_surface(chance, width, count)
                for near in range(40):
                    point = chance_point(chance, (width + near % 2) // 2)
                    if any(is_on_by_weights(point, triangle) for triangle in triangles):
                        place = 0
                    else:
                        place = -1 if around_by_angles(point, triangles) == 0 else 1
                    if place_of(point, triangles) != place:
                        self.fail((point, triangles, place))
                    told.append(place)
        self.assertGreater(min(told.count(place) for place in (-1, 0, 1)), 300)

    def test_against_rays_of_any_way(self):
        chance = random.Random(33)
        told = []
        for width, count in ((2, 2), (3, 3), (50, 4), (2 ** 70, 4), (BIG, 3), (2 ** 205, 3)):
            for turn in range(12):
                triangles = chance_surface(chance, width, count)
                for near in range(6):
                    point = chance_point(chance, width)
                    if near % 2:
                        # In the midst of the solids, or near it.
                        corners = [chance.choice(chance.choice(triangles)) for corner in range(8)]
                        point = tuple(sum(numbers) // 8 for numbers in zip(*corners))
                    if any(is_on_by_weights(point, triangle) for triangle in triangles):
                        continue
                    ways = [chance_point(chance, size) for size in (3, 9, 1000, width)]
                    around = {around_by_ray(point, triangles, way) for way in ways if way != (0, 0, 0)} - {None}
                    if around:
                        self.assertEqual(len(around), 1)
                        told.append(-1 if around == {0} else 1)
                        self.assertEqual(place_of(point, triangles), told[-1])
        self.assertGreater(min(told.count(place) for place in (-1, 1)), 40)


class Staying(unittest.TestCase):
    def test_the_lists_stay_and_are_not_kept(self):
        triangles = four_sides(*CORNERS)
        before = copy.deepcopy(triangles)
        for turn in range(2):
            self.assertIs(is_closed(triangles), True)
            self.assertEqual(six_volume(triangles), 216)
            self.assertEqual(place_of((1, 1, 1), triangles), 1)
            self.assertEqual(place_of((2, 2, 2), triangles), 0)
            self.assertEqual(triangles, before)
        last = triangles.pop()
        self.assertIs(is_closed(triangles), False)
        with self.assertRaises(NotClosed):
            place_of((1, 1, 1), triangles)
        triangles.append(last)
        self.assertEqual(place_of((1, 1, 1), triangles), 1)


if __name__ == "__main__":
    unittest.main()
