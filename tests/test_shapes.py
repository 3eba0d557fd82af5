import copy
import itertools
import unittest

from firsthit.boxes import meets_box
from firsthit.errors import BadRow, HitError, NoRay, NoShape, NotClosed
from firsthit.scenes import Scene
from firsthit.shapes import bounds, meets

BIG = 2 ** 200 - 1
O = (0, 0, 0)
P = (1, 2, 3)
Q = (4, 5, 6)
RAY = ((-1, 1, 1), (2, 0, 0))
STANDING = ((-1, 1, 1), (0, 0, 0))
BOX = ("box", (0, 0, 0), (4, 4, 4))
TRIANGLE = ("triangle", (0, 0, 0), (4, 0, 0), (0, 4, 0))

NO_SHAPES = (
    (),
    ("box",),
    ("box", O),
    ("box", O, P, Q),
    ("triangle",),
    ("triangle", O, P),
    ("triangle", O, P, Q, O),
    ("Box", O, P),
    ("boxes", O, P),
    ("", O, P),
    ("segment", O, P),
    ("Triangle", O, P, Q),
    ("triangles", O, P, Q),
    (O, P),
    (O, P, Q),
    (O, "box", P),
    (3, O, P),
    (None, O, P, Q),
    ("box", (0, 0, 0), (-1, 4, 4)),
    ("box", (0, 0, 0), (4, -1, 4)),
    ("box", (0, 0, 0), (4, 4, -1)),
    ("box", (0, 0, 0), (-1, -1, -1)),
    ("box", (5, 5, 5), (5, 5, 4)),
    ("box", (BIG, 0, 0), (BIG - 1, BIG, BIG)),
    ("box", (-BIG, -BIG, -BIG), (BIG, BIG, -BIG - 1)),
)
# A corner that is somewhere less is a fault of boxes alone.
STILL_SHAPES = (
    ("box", (5, 5, 5), (5, 5, 5)),
    ("box", (0, 0, 3), (4, 4, 3)),
    ("box", (0, 2, 3), (4, 2, 3)),
    ("box", (-BIG, -BIG, -BIG), (BIG, BIG, BIG)),
    ("triangle", Q, P, O),
    ("triangle", O, O, O),
    ("triangle", O, P, P),
    ("triangle", (0, 0, 0), (2, 2, 2), (1, 1, 1)),
)


class Refusals(unittest.TestCase):
    def refused(self, refusal, asked, *handed):
        with self.assertRaises(HitError) as taken:
            asked(*handed)
        self.assertIs(type(taken.exception), refusal)

    def test_a_way_of_noughts(self):
        for shape in (BOX, TRIANGLE) + STILL_SHAPES:
            with self.subTest(shape=shape):
                self.refused(NoRay, meets, STANDING, shape)
        # Even where the start is in the shape.
        self.refused(NoRay, meets, ((1, 1, 1), (0, 0, 0)), BOX)
        self.refused(NoRay, meets, ((1, 1, 0), (0, 0, 0)), TRIANGLE)

    def test_ways_that_are_none_of_noughts(self):
        for way in ((0, 0, 1), (0, -1, 0), (1, 0, 0), (0, 0, -BIG)):
            with self.subTest(way=way):
                self.assertEqual(meets(((1, 1, 0), way), TRIANGLE), (0, 1))

    def test_no_shape(self):
        for shape in NO_SHAPES:
            with self.subTest(shape=shape):
                self.refused(NoShape, meets, RAY, shape)
                self.refused(NoShape, bounds, shape)
                self.refused(NoShape, Scene, [shape])
                self.refused(NoShape, Scene, [BOX, TRIANGLE, shape, BOX])
                self.refused(NoShape, Scene([]).with_shape, shape)
                self.refused(NoShape, Scene([BOX]).with_shape, shape)

    def test_no_ray_ahead_of_no_shape(self):
        for shape in NO_SHAPES:
            with self.subTest(shape=shape):
                self.refused(NoRay, meets, STANDING, shape)

    def test_what_is_a_shape(self):
        for shape in STILL_SHAPES:
            with self.subTest(shape=shape):
                meets(RAY, shape)
                bounds(shape)
                self.assertEqual(Scene([shape]).with_shape(shape).size(), 2)

    def test_taken_by_its_class_and_those_above(self):
        for above in (NoShape, HitError, ValueError):
            with self.assertRaises(above):
                bounds(("box",))
        for beside in (NoRay, NotClosed, BadRow):
            self.assertFalse(issubclass(NoShape, beside))


class Meets(unittest.TestCase):
    def test_a_box(self):
        for start in itertools.product((-1, 0, 2, 4, 5), repeat=3):
            for way in ((1, 0, 0), (-2, 1, 0), (3, -1, 2), (0, 0, -4)):
                with self.subTest(start=start, way=way):
                    self.assertEqual(meets((start, way), BOX), meets_box((start, way), BOX[1:]))
        self.assertEqual(meets(RAY, BOX), (1, 2))
        self.assertEqual(meets(((1, 1, 1), (1, 0, 0)), BOX), (0, 1))
        self.assertIsNone(meets(((-1, 1, 1), (-1, 0, 0)), BOX))

    def test_a_flat_box_and_a_box_that_is_a_point(self):
        flat = ("box", (0, 0, 3), (4, 4, 3))
        self.assertEqual(meets(((1, 1, 0), (0, 0, 2)), flat), (3, 2))
        self.assertIsNone(meets(((5, 1, 0), (0, 0, 2)), flat))
        point = ("box", (1, 2, 3), (1, 2, 3))
        self.assertEqual(meets(((0, 0, 0), (2, 4, 6)), point), (1, 2))
        self.assertIsNone(meets(((0, 0, 0), (2, 4, 5)), point))

    def test_a_triangle(self):
        self.assertEqual(meets(((1, 1, 5), (0, 0, -2)), TRIANGLE), (5, 2))
        self.assertEqual(meets(((2, 2, 5), (0, 0, -2)), TRIANGLE), (5, 2))
        self.assertIsNone(meets(((3, 2, 5), (0, 0, -2)), TRIANGLE))

    def test_what_is_handed_in_stays(self):
        for shape in (BOX, TRIANGLE):
            handed = copy.deepcopy((RAY, shape))
            once = (meets(*handed), bounds(handed[1]))
            self.assertEqual(handed, (RAY, shape))
            self.assertEqual((meets(*handed), bounds(handed[1])), once)


class Bounds(unittest.TestCase):
    def test_a_box(self):
        self.assertEqual(bounds(BOX), ((0, 0, 0), (4, 4, 4)))
        self.assertEqual(bounds(("box", (-3, 5, 2), (-3, 9, 2))), ((-3, 5, 2), (-3, 9, 2)))
        self.assertEqual(bounds(("box", P, P)), (P, P))

    def test_a_triangle(self):
        corners = ((5, -2, 7), (1, 8, 0), (3, 3, -9))
        for order in itertools.permutations(corners):
            self.assertEqual(bounds(("triangle",) + order), ((1, -2, -9), (5, 8, 7)))
        self.assertEqual(bounds(TRIANGLE), ((0, 0, 0), (4, 4, 0)))
        self.assertEqual(bounds(("triangle", (2, 2, 2), (0, 0, 0), (1, 1, 1))), ((0, 0, 0), (2, 2, 2)))
        self.assertEqual(bounds(("triangle", P, P, P)), (P, P))

    def test_numbers_near_the_bound(self):
        self.assertEqual(
            bounds(("triangle", (BIG, -BIG, 0), (BIG - 1, 0, BIG), (0, 1 - BIG, -BIG))),
            ((0, -BIG, -BIG), (BIG, 0, BIG)),
        )

    def test_kinds_of_what_is_told(self):
        for shape in (BOX, TRIANGLE):
            told = bounds(shape)
            self.assertIs(type(told), tuple)
            self.assertEqual([type(corner) for corner in told], [tuple, tuple])


if __name__ == "__main__":
    unittest.main()
