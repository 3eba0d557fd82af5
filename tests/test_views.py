import copy
import itertools
import random
import unittest

from firsthit.scenes import Scene
from firsthit.views import drawn, seen

BIG = 2 ** 200 - 1
SIGNS = "0123456789abcdefghijklmnopqrstuvwxyz"
NEAR = ("box", (1, 1, 2), (2, 3, 3))
FAR = ("box", (0, 0, 6), (4, 2, 7))
CORNER = ("triangle", (4, 4, 5), (4, 2, 5), (2, 4, 5))
SHAPES = [FAR, NEAR, CORNER]
FRONT = ((0, 0, 0), (1, 0, 0), (0, 1, 0), (0, 0, 1))


def plus(one, other, times):
    return tuple(here + times * step for here, step in zip(one, other))


def seen_by_rays(scene, frame, wide, high):
    corner, right, down, way = frame
    rows = []
    for y in range(high):
        row = []
        for x in range(wide):
            hit = scene.first((plus(plus(corner, right, x), down, y), way))
            row.append(-1 if hit is None else hit[1])
        rows.append(row)
    return rows


def chance_way(chance, width):
    return tuple(chance.randint(-width, width) for place in range(3))


class Seen(unittest.TestCase):
    def test_from_the_front(self):
        self.assertEqual(seen(Scene(SHAPES), FRONT, 6, 5), [
            [0, 0, 0, 0, 0, -1],
            [0, 1, 1, 0, 0, -1],
            [0, 1, 1, 0, 2, -1],
            [-1, 1, 1, 2, 2, -1],
            [-1, -1, 2, 2, 2, -1],
        ])

    def test_x_goes_along_the_row_and_y_along_the_rows(self):
        scene = Scene([("box", (2, 0, 5), (2, 0, 5)), ("box", (0, 1, 5), (0, 1, 5))])
        self.assertEqual(seen(scene, FRONT, 3, 2), [[-1, -1, 0], [1, -1, -1]])
        self.assertEqual(seen(scene, (FRONT[0], FRONT[2], FRONT[1], FRONT[3]), 2, 3), [[-1, 1], [-1, -1], [0, -1]])

    def test_from_behind_and_from_the_side(self):
        scene = Scene(SHAPES)
        behind = ((4, 0, 9), (-1, 0, 0), (0, 1, 0), (0, 0, -1))
        self.assertEqual(seen(scene, behind, 5, 5), [
            [0, 0, 0, 0, 0],
            [0, 0, 0, 0, 0],
            [0, 0, 0, 0, 0],
            [2, 2, 1, 1, -1],
            [2, 2, 2, -1, -1],
        ])
        side = ((-1, 2, 0), (0, 0, 1), (0, 1, 0), (5, 0, 0))
        self.assertEqual(seen(scene, side, 8, 3), [
            [-1, -1, 1, 1, -1, 2, 0, 0],
            [-1, -1, 1, 1, -1, 2, -1, -1],
            [-1, -1, -1, -1, -1, 2, -1, -1],
        ])

    def test_none_wide_and_none_high(self):
        for scene in (Scene(SHAPES), Scene([])):
            self.assertEqual(seen(scene, FRONT, 0, 3), [[], [], []])
            self.assertEqual(seen(scene, FRONT, 3, 0), [])
            self.assertEqual(seen(scene, FRONT, 0, 0), [])
            self.assertEqual(seen(scene, FRONT, 0, 1), [[]])

    def test_one_place(self):
        self.assertEqual(seen(Scene(SHAPES), FRONT, 1, 1), [[0]])
        self.assertEqual(seen(Scene(SHAPES), ((1, 1, 1),) + FRONT[1:], 1, 1), [[1]])
        self.assertEqual(seen(Scene(SHAPES), ((9, 9, 9),) + FRONT[1:], 1, 1), [[-1]])

    def test_nothing_met(self):
        self.assertEqual(seen(Scene([]), FRONT, 3, 2), [[-1, -1, -1], [-1, -1, -1]])
        away = FRONT[:3] + ((0, 0, -1),)
        self.assertEqual(seen(Scene(SHAPES), away, 2, 2), [[-1, -1], [-1, -1]])

    def test_right_and_down_of_noughts(self):
        scene = Scene(SHAPES)
        still = (0, 0, 0)
        self.assertEqual(seen(scene, ((1, 1, 0), still, still, (0, 0, 1)), 3, 2), [[1, 1, 1], [1, 1, 1]])
        self.assertEqual(seen(scene, ((0, 1, 0), (1, 0, 0), still, (0, 0, 1)), 4, 2), [[0, 1, 1, 0], [0, 1, 1, 0]])
        downward = ((1, 1, 0), still, (0, 1, 0), (0, 0, 1))
        self.assertEqual(seen(scene, downward, 2, 4), [[1, 1], [1, 1], [1, 1], [-1, -1]])

    def test_right_down_and_way_alike(self):
        scene = Scene([("box", (2, 2, 2), (2, 2, 2)), ("box", (5, 5, 5), (6, 6, 6))])
        way = (1, 1, 1)
        alike = ((0, 0, 0), way, way, way)
        self.assertEqual(seen(scene, alike, 5, 3), [[0, 0, 0, 1, 1], [0, 0, 1, 1, 1], [0, 1, 1, 1, 1]])
        back = (-1, -1, -1)
        self.assertEqual(seen(scene, ((6, 6, 6), back, back, way), 4, 2), [[1, 1, 1, 1], [1, 1, 1, 0]])
        self.assertEqual(seen(scene, ((6, 6, 6), way, back, way), 3, 2), [[1, -1, -1], [1, 1, -1]])

    def test_aslant(self):
        scene = Scene([("triangle", (0, 0, 8), (8, 0, 8), (0, 8, 8))])
        self.assertEqual(seen(scene, ((-1, -1, 0), (2, 1, 0), (-1, 2, 3), (1, 1, 4)), 4, 3), [
            [0, 0, 0, -1],
            [-1, 0, 0, -1],
            [-1, -1, 0, -1],
        ])

    def test_a_start_within_a_shape(self):
        scene = Scene([("box", (0, 0, 0), (9, 9, 9)), ("box", (1, 1, 1), (2, 2, 2))])
        self.assertEqual(seen(scene, FRONT, 3, 3), [[0] * 3] * 3)
        self.assertEqual(seen(scene.without(0), FRONT, 3, 3), [[-1, -1, -1], [-1, 0, 0], [-1, 0, 0]])

    def test_against_first(self):
        chance = random.Random(22)
        for turn in range(40):
            shapes = []
            for number in range(chance.randint(1, 30)):
                corners = [chance_way(chance, 6) for corner in range(3)]
                box = ("box", tuple(map(min, *corners)), tuple(map(max, *corners)))
                shapes.append(box if turn % 3 == 0 else ("triangle",) + tuple(corners))
            scene = Scene(shapes)
            frame = (chance_way(chance, 9), chance_way(chance, 2), chance_way(chance, 2), (1, -2, turn % 5))
            rows = seen(scene, frame, 7, 6)
            self.assertEqual(rows, seen_by_rays(scene, frame, 7, 6))
            self.assertEqual([len(row) for row in rows], [7] * 6)

    def test_numbers_near_the_bound(self):
        scene = Scene([("box", (BIG, BIG, BIG), (BIG, BIG, BIG)), ("box", (-BIG, -BIG, BIG), (BIG, BIG - 1, BIG))])
        frame = ((BIG - 2, BIG, -BIG), (1, 0, 0), (0, -1, 0), (0, 0, BIG))
        self.assertEqual(seen(scene, frame, 4, 2), [[-1, -1, 0, -1], [1, 1, 1, -1]])
        frame = ((-BIG, -BIG, -BIG), (BIG, 0, 0), (0, BIG, 0), (0, 0, 1))
        self.assertEqual(seen(scene, frame, 4, 4), [[1, 1, 1, -1], [1, 1, 1, -1], [-1, -1, 0, -1], [-1] * 4])

    def test_two_hundred_shapes(self):
        boxes = [("box", (x, y, 0), (x, y, 0)) for y, x in itertools.product(range(10), range(20))]
        self.assertEqual(seen(Scene(boxes), FRONT, 20, 10), [list(range(20 * y, 20 * y + 20)) for y in range(10)])

    def test_lists_of_its_own(self):
        scene = Scene(SHAPES)
        rows = seen(scene, FRONT, 3, 3)
        before = copy.deepcopy(rows)
        self.assertIs(type(rows), list)
        for row in rows:
            self.assertIs(type(row), list)
            self.assertEqual({type(number) for number in row}, {int})
        self.assertEqual(len({id(row) for row in rows}), 3)
        still = seen(Scene([]), FRONT, 0, 3)
        still[0].append(7)
        self.assertEqual(still, [[7], [], []])
        rows[0][0] = "mine"
        rows.pop()
        self.assertEqual(seen(scene, FRONT, 3, 3), before)

    def test_what_is_handed_in_stays(self):
        scene = Scene(SHAPES)
        frame = copy.deepcopy(FRONT)
        seen(scene, frame, 4, 4)
        self.assertEqual(frame, FRONT)
        self.assertEqual([scene.shape(number) for number in range(scene.size())], SHAPES)


class Drawn(unittest.TestCase):
    def test_no_rows_and_empty_rows(self):
        self.assertEqual(drawn([]), "")
        self.assertEqual(drawn([[]]), "")
        self.assertEqual(drawn([[], []]), "\n")
        self.assertEqual(drawn([[], [], []]), "\n\n")
        self.assertEqual(drawn([[1], [], [2]]), "1\n\n2")

    def test_one_row(self):
        self.assertEqual(drawn([[-1]]), ".")
        self.assertEqual(drawn([[0]]), "0")
        self.assertEqual(drawn([[0, -1, 1, 10]]), "0.1a")

    def test_line_feeds_between_and_none_at_the_end(self):
        self.assertEqual(drawn([[0, 1], [-1, 2], [-1, -1]]), "01\n.2\n..")

    def test_signs(self):
        for number, sign in ((-1, "."), (0, "0"), (9, "9"), (10, "a"), (11, "b"), (34, "y"), (35, "z"), (36, "0"),
                             (37, "1"), (45, "9"), (46, "a"), (71, "z"), (72, "0"), (143, "z"), (144, "0"), (199, "j")):
            with self.subTest(number=number):
                self.assertEqual(drawn([[number]]), sign)

    def test_all_numbers_up_to_199_and_somewhat_beyond(self):
        self.assertEqual(drawn([list(range(200))]), (SIGNS * 6)[:200])
        self.assertEqual(drawn([[number] for number in range(250)]), "\n".join((SIGNS * 7)[:250]))

    def test_what_is_seen(self):
        rows = seen(Scene(SHAPES), FRONT, 6, 5)
        self.assertEqual(drawn(rows), "00000.\n01100.\n01102.\n.1122.\n..222.")

    def test_the_rows_stay(self):
        rows = [[0, -1], [], [36, 199]]
        before = copy.deepcopy(rows)
        self.assertEqual(drawn(rows), "0.\n\n0j")
        self.assertEqual(rows, before)
        self.assertIs(type(drawn(rows)), str)


if __name__ == "__main__":
    unittest.main()
