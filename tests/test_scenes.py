import copy
import itertools
import random
import unittest
from fractions import Fraction

from firsthit.errors import HitError, NoRay, NoShape
from firsthit.scenes import Scene
from firsthit.shapes import meets

BIG = 2 ** 200 - 1
BOX = ("box", (0, 0, 0), (4, 4, 4))
FAR_BOX = ("box", (10, 0, 0), (12, 4, 4))
TRIANGLE = ("triangle", (6, 0, 0), (6, 4, 0), (6, 0, 4))
THREE = [BOX, FAR_BOX, TRIANGLE]
NO_BOX = ("box", (0, 0, 0), (4, 4, -1))
WAYS = [way for way in itertools.product((-1, 0, 1), repeat=3) if way != (0, 0, 0)]


def one_by_one(ray, shapes):
    hits = []
    for number, shape in enumerate(shapes):
        time = meets(ray, shape)
        if time is not None:
            hits.append((Fraction(*time), number))
    return [((time.numerator, time.denominator), number) for time, number in sorted(hits)]


def is_free_one_by_one(one, other, shapes):
    way = tuple(there - here for here, there in zip(one, other))
    last = 1
    if way == (0, 0, 0):
        way, last = (-3, 1, 2), 0
    times = [meets((one, way), shape) for shape in shapes]
    return all(time is None or Fraction(*time) > last for time in times)


def chance_point(chance, width):
    return tuple(chance.randint(-width, width) for place in range(3))


def chance_shape(chance, space, width):
    middle = chance_point(chance, space)
    corners = [tuple(map(sum, zip(middle, chance_point(chance, width)))) for corner in range(3)]
    if chance.randint(0, 1):
        return ("triangle",) + tuple(corners)
    return ("box", tuple(map(min, *corners)), tuple(map(max, *corners)))


def chance_ray(chance, width):
    way = (0, 0, 0)
    while way == (0, 0, 0):
        way = chance_point(chance, width)
    return (chance_point(chance, width), way)


class Keeping(unittest.TestCase):
    def refused(self, refusal, asked, *handed):
        with self.assertRaises(HitError) as taken:
            asked(*handed)
        self.assertIs(type(taken.exception), refusal)

    def check_shapes(self, scene, shapes):
        self.assertEqual(scene.size(), len(shapes))
        self.assertEqual([scene.shape(number) for number in range(len(shapes))], shapes)
        ray = ((-1, 1, 1), (2, 0, 0))
        self.assertEqual(scene.every(ray), one_by_one(ray, shapes))

    def test_an_empty_list(self):
        scene = Scene([])
        self.check_shapes(scene, [])
        self.refused(NoShape, scene.shape, 0)
        self.refused(NoShape, scene.without, 0)
        self.check_shapes(scene.with_shape(BOX), [BOX])

    def test_numbers_from_0_on(self):
        self.check_shapes(Scene(THREE), THREE)
        self.check_shapes(Scene([BOX]), [BOX])
        self.check_shapes(Scene([BOX, BOX, TRIANGLE, BOX]), [BOX, BOX, TRIANGLE, BOX])

    def test_up_to_200_shapes_and_somewhat_more(self):
        for count in (2, 3, 24, 199, 200, 201, 1100):
            with self.subTest(count=count):
                shapes = [("box", (number, 0, 0), (number, 9, 9)) for number in range(count)]
                self.check_shapes(Scene(shapes), shapes)
                self.check_shapes(Scene(shapes[::-1]), shapes[::-1])
                self.check_shapes(Scene([BOX] * count), [BOX] * count)

    def test_grown_one_by_one_to_200(self):
        chance = random.Random(5)
        shapes = [chance_shape(chance, 9, 3) for number in range(200)]
        scene = Scene([])
        for shape in shapes:
            scene = scene.with_shape(shape)
        self.check_shapes(scene, shapes)
        while scene.size() > 1:
            shapes.pop(scene.size() // 3)
            scene = scene.without(scene.size() // 3)
        self.check_shapes(scene, shapes)

    def test_the_list_handed_in_is_neither_kept_nor_changed(self):
        shapes = list(THREE)
        scene = Scene(shapes)
        self.assertEqual(shapes, THREE)
        shapes[0] = ("box", (50, 50, 50), (60, 60, 60))
        shapes.append(BOX)
        self.check_shapes(scene, THREE)
        shapes.clear()
        self.check_shapes(scene, THREE)

    def test_with_shape_is_the_last(self):
        scene = Scene(THREE)
        more = scene.with_shape(BOX)
        self.check_shapes(more, THREE + [BOX])
        self.check_shapes(scene, THREE)
        self.check_shapes(scene.with_shape(TRIANGLE), THREE + [TRIANGLE])
        self.check_shapes(more, THREE + [BOX])
        self.assertIs(type(more), Scene)

    def test_without_moves_those_behind_it(self):
        scene = Scene(THREE)
        self.check_shapes(scene.without(0), [FAR_BOX, TRIANGLE])
        self.check_shapes(scene.without(1), [BOX, TRIANGLE])
        self.check_shapes(scene.without(2), [BOX, FAR_BOX])
        self.check_shapes(scene, THREE)
        self.check_shapes(scene.without(0).without(0).without(0), [])
        self.check_shapes(Scene([BOX, TRIANGLE, BOX]).without(2), [BOX, TRIANGLE])
        self.assertIs(type(scene.without(0)), Scene)

    def test_numbers_that_no_shape_has(self):
        scene = Scene(THREE)
        for number in (-1, -2, -3, -4, 3, 4, 200, BIG, -BIG):
            with self.subTest(number=number):
                self.refused(NoShape, scene.shape, number)
                self.refused(NoShape, scene.without, number)
                self.check_shapes(scene, THREE)
        for number in (-1, 0, 1):
            self.refused(NoShape, Scene([]).shape, number)
            self.refused(NoShape, Scene([]).without, number)

    def test_what_is_refused_changes_nothing(self):
        scene = Scene(THREE)
        for shape in (NO_BOX, (), ("ball", (0, 0, 0), (1, 1, 1)), ("triangle", (0, 0, 0), (1, 1, 1))):
            with self.subTest(shape=shape):
                self.refused(NoShape, scene.with_shape, shape)
                self.check_shapes(scene, THREE)
                shapes = [BOX, shape]
                self.refused(NoShape, Scene, shapes)
                self.assertEqual(shapes, [BOX, shape])


class Meeting(unittest.TestCase):
    def check(self, ray, shapes, scene=None):
        scene = Scene(shapes) if scene is None else scene
        hits = one_by_one(ray, shapes)
        first = scene.first(ray)
        every = scene.every(ray)
        if every != hits or first != (hits[0] if hits else None):
            self.fail((ray, shapes, hits, first, every))

    def test_written_cases(self):
        scene = Scene(THREE)
        along = ((-1, 1, 1), (2, 0, 0))
        self.assertEqual(scene.first(along), ((1, 2), 0))
        self.assertEqual(scene.every(along), [((1, 2), 0), ((7, 2), 2), ((11, 2), 1)])
        back = ((13, 1, 1), (-1, 0, 0))
        self.assertEqual(scene.first(back), ((1, 1), 1))
        self.assertEqual(scene.every(back), [((1, 1), 1), ((7, 1), 2), ((9, 1), 0)])
        self.assertEqual(scene.first(((11, 1, 1), (-4, 0, 0))), ((0, 1), 1))
        self.assertEqual(scene.first(((5, 1, 1), (1, 0, 0))), ((1, 1), 2))
        self.assertEqual(scene.every(((5, 3, 3), (1, 0, 0))), [((5, 1), 1)])

    def test_a_ray_that_meets_none(self):
        for ray in (((5, 1, 1), (0, 1, 0)), ((13, 1, 1), (1, 0, 0)), ((-1, 5, 1), (1, 0, 0))):
            with self.subTest(ray=ray):
                self.assertIsNone(Scene(THREE).first(ray))
                self.assertEqual(Scene(THREE).every(ray), [])
        self.assertIsNone(Scene([]).first(((1, 2, 3), (1, 0, 0))))
        self.assertEqual(Scene([]).every(((1, 2, 3), (1, 0, 0))), [])

    def test_a_way_of_noughts_in_an_empty_scene_too(self):
        for shapes in ([], THREE, [BOX]):
            scene = Scene(shapes)
            for start in ((1, 1, 1), (99, 99, 99)):
                for asked in (scene.first, scene.every):
                    with self.subTest(shapes=shapes, start=start, asked=asked):
                        with self.assertRaises(HitError) as taken:
                            asked((start, (0, 0, 0)))
                        self.assertIs(type(taken.exception), NoRay)
            self.assertEqual([scene.shape(number) for number in range(scene.size())], shapes)

    def test_of_like_times_the_least_number(self):
        wall = ("box", (4, -9, -9), (4, 9, 9))
        slant = ("triangle", (4, 0, 0), (9, 5, 0), (9, 0, 5))
        cube = ("box", (4, -1, -1), (6, 1, 1))
        ray = ((0, 0, 0), (8, 0, 0))
        for order in itertools.permutations([wall, slant, cube, BOX, FAR_BOX]):
            here = order.index(BOX)
            self.assertEqual(Scene(list(order)).first(ray), ((0, 1), here))
            rest = [number for number in range(5) if order[number] in (wall, slant, cube)]
            self.assertEqual(
                Scene(list(order)).every(ray),
                [((0, 1), here)] + [((1, 2), number) for number in rest] + [((5, 4), order.index(FAR_BOX))],
            )
            self.assertEqual(Scene(list(order)).without(here).first(ray)[0], (1, 2))
            self.assertEqual(Scene(list(order)).without(here).first(ray)[1], rest[0] - (rest[0] > here))

    def test_shapes_alike(self):
        for shape in (BOX, TRIANGLE, ("triangle", (1, 1, 1), (1, 1, 1), (1, 1, 1))):
            for count in (2, 7, 200):
                scene = Scene([shape] * count)
                ray = ((-3, 1, 1), (1, 0, 0))
                time = meets(ray, shape)
                with self.subTest(shape=shape, count=count):
                    self.assertEqual(scene.first(ray), (time, 0))
                    self.assertEqual(scene.every(ray), [(time, number) for number in range(count)])

    def test_boxes_side_by_side(self):
        # Rays along sides and edges, and through edges and corners, of boxes that touch one another.
        shapes = [("box", low, tuple(number + 2 for number in low)) for low in itertools.product((4, 0, 2), repeat=3)]
        scene = Scene(shapes)
        for start in itertools.product((-1, 0, 1, 2, 6), repeat=3):
            for way in WAYS:
                self.check((start, way), shapes, scene)

    def test_triangles_edge_by_edge(self):
        # A sheet with two triangles to each field, and one upright on it; rays in the sheet too.
        shapes = []
        for x, y in itertools.product(range(0, 6, 2), repeat=2):
            shapes.append(("triangle", (x, y, 0), (x + 2, y, 0), (x, y + 2, 0)))
            shapes.append(("triangle", (x + 2, y + 2, 0), (x, y + 2, 0), (x + 2, y, 0)))
        shapes.append(("triangle", (2, 2, 0), (4, 4, 0), (2, 2, 4)))
        scene = Scene(shapes)
        for start in itertools.product((-1, 0, 1, 2, 3, 6), (-2, 0, 1, 2, 5), (-1, 0, 1)):
            for way in WAYS + [(1, 2, 0), (3, -1, -1), (1, 1, -2)]:
                self.check((start, way), shapes, scene)

    def test_no_ray_leaves_a_closed_surface_unmet(self):
        tops = [(5, 0, 0), (-5, 0, 0), (0, 5, 0), (0, -5, 0), (0, 0, 5), (0, 0, -5)]
        shapes = [("triangle", x, y, z) for x, y, z in itertools.product(tops[:2], tops[2:4], tops[4:])]
        scene = Scene(shapes)
        for start in ((0, 0, 0), (1, 0, 0), (1, -1, 1), (0, 2, -2), (4, 0, 0)):
            for way in itertools.product(range(-5, 6), repeat=3):
                if way != (0, 0, 0):
                    hit = scene.first((start, way))
                    there = [here + Fraction(*hit[0]) * step for here, step in zip(start, way)]
                    self.assertEqual(sum(map(abs, there)), 5)

    def test_many_shapes_that_cross(self):
        chance = random.Random(77)
        for space, width, count in ((3, 3, 200), (9, 3, 200), (30, 4, 200), (6, 2, 40), (2, 1, 12), (BIG, BIG, 60)):
            shapes = [chance_shape(chance, space, width) for number in range(count)]
            scene = Scene(shapes)
            for turn in range(120):
                self.check(chance_ray(chance, space + width), shapes, scene)

    def test_times_that_differ_by_very_little(self):
        # The first is met at (BIG - 1) / BIG, the second at (BIG - 2) / (BIG - 1): just ahead of it.
        shapes = [("box", (BIG - 1, -BIG, -BIG), (BIG, BIG, BIG)), ("box", (-BIG, BIG - 2, -BIG), (BIG, BIG, BIG))]
        for order in (shapes, shapes[::-1]):
            hits = Scene(order).every(((0, 0, 0), (BIG, BIG - 1, 0)))
            self.assertEqual([time for time, number in hits], [(BIG - 2, BIG - 1), (BIG - 1, BIG)])
            self.assertEqual([order[number] for time, number in hits], shapes[::-1])
            self.assertEqual(Scene(order).first(((0, 0, 0), (BIG, BIG - 1, 0))), hits[0])

    def test_times_by_their_worth_not_by_their_tuples(self):
        # Many times with unlike unders, the tops in no order.
        shapes = [("triangle", (x, -x, 0), (0, 1, 0), (x + 1, -x, 0)) for x in range(40)]
        scene = Scene(shapes)
        for way in ((7, 3, 0), (5, 1, 0), (11, -4, 0), (12, -11, 0)):
            for start in ((-1, 0, 0), (1, -9, 0), (0, 1, 0), (60, -30, 0)):
                self.check((start, way), shapes, scene)
                self.check((start, tuple(-step for step in way)), shapes, scene)

    def test_kinds_of_what_is_told(self):
        scene = Scene(THREE)
        ray = ((-1, 1, 1), (2, 0, 0))
        every = scene.every(ray)
        self.assertIs(type(every), list)
        for hit in every + [scene.first(ray)]:
            self.assertIs(type(hit), tuple)
            self.assertIs(type(hit[0]), tuple)
            self.assertEqual([type(number) for number in hit[0] + hit[1:]], [int, int, int])

    def test_what_an_asker_changes_changes_nothing_later(self):
        scene = Scene(THREE)
        ray = ((-1, 1, 1), (2, 0, 0))
        told = scene.every(ray)
        before = list(told)
        told.reverse()
        told.pop()
        self.assertEqual(scene.every(ray), before)
        self.assertEqual(scene.first(ray), before[0])
        none = scene.every(((5, 1, 1), (0, 1, 0)))
        none.append("mine")
        self.assertEqual(scene.every(((5, 1, 1), (0, 1, 0))), [])

    def test_what_is_handed_in_stays(self):
        ray = ((-1, 1, 1), (2, 0, 0))
        before = copy.deepcopy(ray)
        scene = Scene(THREE)
        once = (scene.first(ray), scene.every(ray))
        self.assertEqual(ray, before)
        self.assertEqual((scene.first(ray), scene.every(ray)), once)


class Free(unittest.TestCase):
    def check(self, shapes, rows):
        scene = Scene(shapes)
        for one, other, free in rows:
            with self.subTest(one=one, other=other):
                self.assertIs(scene.is_free(one, other), free)
                self.assertIs(scene.is_free(other, one), free)

    def test_a_box(self):
        self.check([BOX], (
            ((-1, 2, 2), (5, 2, 2), False),
            ((1, 2, 2), (3, 2, 2), False),
            ((1, 2, 2), (9, 9, 9), False),
            ((-1, 2, 2), (0, 2, 2), False),
            ((-2, 2, 2), (-1, 2, 2), True),
            ((-2, 5, 2), (9, 5, 2), True),
            ((4, 4, 4), (9, 9, 9), False),
            ((5, 5, 5), (9, 9, 9), True),
            ((-1, 4, 0), (7, 4, 0), False),
            ((-1, 1, 2), (1, -1, 2), False),
            ((-1, 1, 1), (1, -1, -1), False),
            ((-1, 0, 2), (0, -1, 2), True),
        ))

    def test_just_beyond_its_end(self):
        self.check([BOX], (
            ((-BIG, 2, 2), (-1, 2, 2), True),
            ((-BIG, 2, 2), (0, 2, 2), False),
            ((5, 5, 5), (BIG, BIG, BIG), True),
            ((4, 4, 4), (BIG, BIG, BIG), False),
        ))
        edge = ("triangle", (BIG, -BIG, 0), (BIG, BIG, 0), (BIG, 0, BIG))
        self.check([edge], (
            ((-BIG, 0, 0), (BIG - 1, 0, 0), True),
            ((-BIG, 0, 0), (BIG, 0, 0), False),
            ((-BIG, 0, -1), (BIG, 0, -1), True),
        ))

    def test_a_triangle(self):
        self.check([TRIANGLE], (
            ((5, 1, 1), (7, 1, 1), False),
            ((5, 2, 2), (7, 2, 2), False),
            ((5, 2, 3), (7, 2, 3), True),
            ((5, 1, 1), (6, 1, 1), False),
            ((4, 1, 1), (5, 1, 1), True),
            ((5, 0, 4), (7, 0, 4), False),
            ((6, -1, 5), (6, 1, 3), False),
            ((6, 0, 5), (6, 5, 0), True),
            ((6, -1, 0), (6, 9, 0), False),
        ))

    def test_one_point_twice(self):
        self.check([BOX, TRIANGLE], [(point, point, free) for point, free in (
            ((1, 2, 3), False),
            ((0, 2, 3), False),
            ((4, 4, 3), False),
            ((4, 4, 4), False),
            ((-1, 2, 2), True),
            ((5, 2, 2), True),
            ((4, 4, 5), True),
            ((6, 1, 1), False),
            ((6, 2, 2), False),
            ((6, 0, 4), False),
            ((6, 2, 3), True),
            ((7, 1, 1), True),
            ((BIG, BIG, BIG), True),
        )])

    def test_points_of_small_shapes(self):
        self.check([("box", (1, 1, 1), (1, 1, 1)), ("triangle", (3, 3, 3), (3, 3, 3), (3, 3, 3))], (
            ((1, 1, 1), (1, 1, 1), False),
            ((3, 3, 3), (3, 3, 3), False),
            ((2, 2, 2), (2, 2, 2), True),
            ((0, 0, 0), (1, 1, 1), False),
            ((0, 0, 0), (0, 1, 1), True),
            ((2, 2, 2), (3, 3, 4), True),
            ((2, 2, 2), (4, 4, 4), False),
        ))

    def test_an_empty_scene(self):
        self.check([], (
            ((0, 0, 0), (1, 1, 1), True),
            ((2, 2, 2), (2, 2, 2), True),
        ))

    def test_one_shape_of_many_suffices(self):
        far = [("box", (20 + 3 * number, 0, 0), (21 + 3 * number, 1, 1)) for number in range(60)]
        for place in (0, 30, 60):
            self.check(far[:place] + [TRIANGLE] + far[place:], (
                ((5, 1, 1), (7, 1, 1), False),
                ((7, 1, 1), (19, 1, 1), True),
                ((7, 1, 1), (20, 1, 1), False),
                ((22, 0, 0), (22, 9, 9), True),
            ))

    def test_against_shapes_one_by_one(self):
        chance = random.Random(99)
        for space, width, count in ((2, 1, 5), (5, 2, 12), (9, 3, 25)):
            for turn in range(12):
                shapes = [chance_shape(chance, space, width) for number in range(count)]
                rows = []
                for pair in range(60):
                    one, other = chance_point(chance, space + 1), chance_point(chance, space + 1)
                    rows.append((one, other, is_free_one_by_one(one, other, shapes)))
                    rows.append((one, one, is_free_one_by_one(one, one, shapes)))
                self.assertIn(True, [row[2] for row in rows])
                self.assertIn(False, [row[2] for row in rows])
                self.check(shapes, rows)


if __name__ == "__main__":
    unittest.main()
