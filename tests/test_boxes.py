import copy
import itertools
import unittest
from fractions import Fraction
from math import gcd

from firsthit.boxes import box_around, meets_box, stay_in

BIG = 2 ** 200 - 1
BOX = ((0, 0, 0), (4, 4, 4))


def place_at(ray, time):
    return tuple(start + time * step for start, step in zip(*ray))


def is_in(point, box):
    return all(low <= number <= high for number, low, high in zip(point, *box))


def stay_by_trying(ray, box):
    # A stay begins and ends at the start or where the ray is on a side's plane:
    # so try these times alone, by the box's own meaning.
    times = {Fraction(0)}
    for start, step, low, high in zip(*ray, *box):
        if step != 0:
            times |= {Fraction(low - start, step), Fraction(high - start, step)}
    within = [time for time in times if time >= 0 and is_in(place_at(ray, time), box)]
    if not within:
        return None
    return tuple((time.numerator, time.denominator) for time in (min(within), max(within)))


class Stays(unittest.TestCase):
    """Each case tells a ray and its stay; meets_box is asked for the first time of it."""

    def check(self, ray, box, stay):
        self.assertEqual(stay_in(ray, box), stay)
        self.assertEqual(meets_box(ray, box), None if stay is None else stay[0])

    def check_all(self, rows, box=BOX):
        for start, way, stay in rows:
            with self.subTest(start=start, way=way, box=box):
                self.check((start, way), box, stay)

    def test_from_outside(self):
        self.check_all((
            ((-2, 1, 1), (1, 0, 0), ((2, 1), (6, 1))),
            ((6, 1, 1), (-1, 0, 0), ((2, 1), (6, 1))),
            ((1, -3, 2), (0, 1, 0), ((3, 1), (7, 1))),
            ((1, 2, 9), (0, 0, -5), ((1, 1), (9, 5))),
            ((-1, -1, -1), (1, 1, 1), ((1, 1), (5, 1))),
            ((6, 6, 6), (-2, -1, -1), ((2, 1), (3, 1))),
        ))

    def test_times_that_are_no_whole_numbers(self):
        self.check_all((
            ((-1, 1, 1), (2, 0, 0), ((1, 2), (5, 2))),
            ((-2, 1, 1), (4, 0, 0), ((1, 2), (3, 2))),
            ((7, 7, 2), (-9, -6, 0), ((1, 2), (7, 9))),
            ((-10, 2, 2), (15, 0, 0), ((2, 3), (14, 15))),
        ))

    def test_from_within(self):
        self.check_all((
            ((1, 2, 3), (1, 0, 0), ((0, 1), (3, 1))),
            ((1, 2, 3), (-3, 0, 0), ((0, 1), (1, 3))),
            ((1, 2, 3), (1, 1, 2), ((0, 1), (1, 2))),
        ))

    def test_from_a_side_an_edge_a_corner(self):
        self.check_all((
            ((0, 2, 2), (1, 0, 0), ((0, 1), (4, 1))),
            ((0, 2, 2), (0, 1, 0), ((0, 1), (2, 1))),
            ((4, 4, 2), (-1, -2, 0), ((0, 1), (2, 1))),
            ((4, 4, 2), (0, 0, 1), ((0, 1), (2, 1))),
            ((0, 0, 0), (1, 1, 1), ((0, 1), (4, 1))),
            ((4, 4, 4), (0, 0, -1), ((0, 1), (4, 1))),
        ))

    def test_from_a_side_an_edge_a_corner_leading_out(self):
        self.check_all((
            ((0, 2, 2), (-1, 0, 0), ((0, 1), (0, 1))),
            ((4, 2, 2), (5, -1, 0), ((0, 1), (0, 1))),
            ((4, 4, 2), (-1, 2, 0), ((0, 1), (0, 1))),
            ((4, 4, 4), (1, 1, 1), ((0, 1), (0, 1))),
            ((0, 0, 0), (1, 1, -1), ((0, 1), (0, 1))),
        ))

    def test_along_a_side_and_along_an_edge(self):
        self.check_all((
            ((-1, 2, 4), (1, 0, 0), ((1, 1), (5, 1))),
            ((-1, 1, 0), (2, 1, 0), ((1, 2), (5, 2))),
            ((0, 4, -3), (0, 0, 3), ((1, 1), (7, 3))),
            ((0, 0, 6), (0, 0, -1), ((2, 1), (6, 1))),
        ))

    def test_through_an_edge_or_a_corner_only(self):
        self.check_all((
            ((-1, 1, 2), (1, -1, 0), ((1, 1), (1, 1))),
            ((3, 7, 1), (1, -3, 0), ((1, 1), (1, 1))),
            ((-1, 1, 1), (1, -1, -1), ((1, 1), (1, 1))),
            ((6, 2, 3), (-4, 4, 2), ((1, 2), (1, 2))),
            ((5, 5, 3), (-1, -1, 1), ((1, 1), (1, 1))),
        ))

    def test_just_past_an_edge_or_a_corner(self):
        self.check_all((
            ((-BIG, BIG - 1, 2), (BIG, -BIG, 0), None),
            ((-1, 1, 1), (1, -1, -2), None),
            ((5, 4, 2), (-1, 1, 0), None),
        ))

    def test_behind(self):
        self.check_all((
            ((5, 2, 2), (1, 0, 0), None),
            ((-1, 2, 2), (-1, 0, 0), None),
            ((5, 5, 5), (1, 1, 1), None),
            ((2, 2, 5), (0, 0, 1), None),
        ))

    def test_beside(self):
        self.check_all((
            ((-1, 5, 2), (1, 0, 0), None),
            ((-1, 2, -1), (1, 0, 0), None),
            ((-1, 2, 5), (1, 1, 0), None),
            ((-3, 2, 2), (1, 2, 0), None),
        ))

    def test_flat_in_one_place(self):
        self.check_all((
            ((1, 2, 0), (0, 0, 2), ((3, 2), (3, 2))),
            ((-1, 2, 3), (1, 0, 0), ((1, 1), (5, 1))),
            ((1, 2, 3), (0, 0, 1), ((0, 1), (0, 1))),
            ((1, 2, 4), (1, 0, 0), None),
            ((1, 2, 4), (0, 0, 1), None),
        ), ((0, 0, 3), (4, 4, 3)))

    def test_flat_in_two_places(self):
        self.check_all((
            ((2, 0, 0), (0, 2, 3), ((1, 1), (1, 1))),
            ((6, 2, 3), (-4, 0, 0), ((1, 2), (3, 2))),
            ((2, 2, 3), (1, 0, 0), ((0, 1), (2, 1))),
            ((2, 0, 0), (0, 2, 2), None),
        ), ((0, 2, 3), (4, 2, 3)))

    def test_a_single_point(self):
        self.check_all((
            ((0, 0, 0), (2, 4, 6), ((1, 2), (1, 2))),
            ((0, 0, 0), (1, 2, 4), None),
            ((1, 2, 3), (5, 6, 7), ((0, 1), (0, 1))),
            ((1, 2, 5), (0, 0, -4), ((1, 2), (1, 2))),
            ((0, 0, 0), (-1, -2, -3), None),
        ), ((1, 2, 3), (1, 2, 3)))

    def test_numbers_near_the_bound(self):
        whole = ((-BIG, -BIG, -BIG), (BIG, BIG, BIG))
        self.check(((BIG, BIG, BIG), (-1, -1, -1)), whole, ((0, 1), (2 * BIG, 1)))
        self.check(((0, 0, 0), (BIG, -BIG, BIG)), whole, ((0, 1), (1, 1)))
        self.check(((0, 0, 0), (BIG - 1, 0, 0)), whole, ((0, 1), (BIG, BIG - 1)))
        self.check(((BIG, BIG, -BIG), (1, 0, 0)), whole, ((0, 1), (0, 1)))
        far = ((BIG, BIG - 1, BIG), (BIG, BIG, BIG))
        self.check(((0, 0, 0), (BIG - 1, BIG - 1, BIG - 1)), far, ((BIG, BIG - 1), (BIG, BIG - 1)))
        self.check(((0, 0, 0), (BIG, BIG - 2, BIG)), far, None)
        self.check(((-BIG, -BIG, -BIG), (BIG, BIG, BIG)), far, ((2, 1), (2, 1)))
        self.check(((-BIG, BIG, BIG), (2 ** 199, 0, 0)), far, ((BIG, 2 ** 198), (BIG, 2 ** 198)))
        self.check(((BIG, BIG, BIG), (-1, 0, 0)), ((-BIG, 0, 0), (-BIG, BIG, BIG)), ((2 * BIG, 1), (2 * BIG, 1)))

    def test_against_trying_the_times(self):
        boxes = (((0, 0, 0), (1, 1, 1)), ((0, -1, 1), (2, 1, 1)), ((-1, 0, 1), (1, 0, 1)), ((0, 1, -1), (0, 1, -1)))
        ways = [way for way in itertools.product((-3, -1, 0, 2), repeat=3) if way != (0, 0, 0)]
        for box, start, way in itertools.product(boxes, itertools.product(range(-2, 4), repeat=3), ways):
            ray = (start, way)
            stay = stay_by_trying(ray, box)
            if stay_in(ray, box) != stay or meets_box(ray, box) != (stay and stay[0]):
                self.fail((ray, box, stay, stay_in(ray, box), meets_box(ray, box)))

    def test_kinds_of_what_is_told(self):
        for ray in (((-6, 1, 1), (4, 0, 0)), ((6, 1, 1), (-4, 0, 0)), ((2, 2, 2), (-6, 3, 0))):
            stay = stay_in(ray, BOX)
            self.assertIs(type(stay), tuple)
            self.assertEqual(len(stay), 2)
            for time in stay + (meets_box(ray, BOX),):
                with self.subTest(ray=ray, time=time):
                    self.assertIs(type(time), tuple)
                    self.assertEqual([type(number) for number in time], [int, int])
                    self.assertGreater(time[1], 0)
                    self.assertEqual(gcd(*time), 1)
                    self.assertTrue(is_in(place_at(ray, Fraction(*time)), BOX))

    def test_what_is_handed_in_stays(self):
        for asked in (meets_box, stay_in):
            with self.subTest(asked=asked):
                ray = ((-1, 1, 1), (2, 0, -3))
                box = ((0, 0, 0), (4, 4, 4))
                before = copy.deepcopy((ray, box))
                once = asked(ray, box)
                self.assertEqual((ray, box), before)
                self.assertEqual(asked(ray, box), once)


class Around(unittest.TestCase):
    def test_one_point(self):
        self.assertEqual(box_around([(3, -4, 5)]), ((3, -4, 5), (3, -4, 5)))

    def test_several_points(self):
        self.assertEqual(box_around([(1, 5, 9), (2, 4, 7)]), ((1, 4, 7), (2, 5, 9)))
        self.assertEqual(box_around([(1, 5, 9), (2, 4, 7), (0, 8, 8)]), ((0, 4, 7), (2, 8, 9)))

    def test_points_told_twice(self):
        self.assertEqual(box_around([(1, 2, 3), (1, 2, 3)]), ((1, 2, 3), (1, 2, 3)))
        self.assertEqual(box_around([(1, 2, 3), (0, 5, 3), (1, 2, 3)]), ((0, 2, 3), (1, 5, 3)))

    def test_numbers_below_nought(self):
        self.assertEqual(box_around([(-1, -5, 2), (-3, -4, -2)]), ((-3, -5, -2), (-1, -4, 2)))

    def test_numbers_near_the_bound(self):
        points = [(BIG, -BIG, 0), (BIG - 1, 1 - BIG, BIG), (BIG, -BIG, -BIG)]
        self.assertEqual(box_around(points), ((BIG - 1, -BIG, -BIG), (BIG, 1 - BIG, BIG)))

    def test_the_order_of_points_is_all_one(self):
        points = [(0, 7, -2), (3, 3, 3), (-1, 4, 9), (2, -8, 1)]
        for order in itertools.permutations(points):
            self.assertEqual(box_around(list(order)), ((-1, -8, -2), (3, 7, 9)))

    def test_kinds_of_what_is_told(self):
        box = box_around([(1, 2, 3), (4, 0, 6)])
        self.assertIs(type(box), tuple)
        self.assertEqual([type(corner) for corner in box], [tuple, tuple])

    def test_the_list_stays_and_is_not_kept(self):
        points = [(2, 2, 2), (0, 5, 1), (2, 2, 2)]
        box = box_around(points)
        self.assertEqual(points, [(2, 2, 2), (0, 5, 1), (2, 2, 2)])
        points.append((9, 9, 9))
        self.assertEqual(box, ((0, 2, 1), (2, 5, 2)))


if __name__ == "__main__":
    unittest.main()
