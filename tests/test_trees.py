import itertools
import random
import unittest

from firsthit.boxes import meets_box
from firsthit.trees import numbers_along, tree_about


def height(tree):
    return 1 + max([height(half) for half in tree.halves], default=0)


def numbers_below(tree):
    if tree.number is not None:
        return [tree.number]
    return sorted(numbers_below(tree.halves[0]) + numbers_below(tree.halves[1]))


class Trees(unittest.TestCase):
    def chance_boxes(self, count):
        chance = random.Random(count)
        corners = [[tuple(chance.randint(-9, 9) for place in range(3)) for corner in range(2)] for box in range(count)]
        return [(tuple(map(min, *pair)), tuple(map(max, *pair))) for pair in corners]

    def test_no_boxes(self):
        self.assertIsNone(tree_about([]))
        self.assertEqual(numbers_along(None, ((0, 0, 0), (1, 0, 0))), [])

    def test_each_number_is_below_once(self):
        for count in (1, 2, 3, 7, 64, 200):
            with self.subTest(count=count):
                self.assertEqual(numbers_below(tree_about(self.chance_boxes(count))), list(range(count)))

    def test_low_even_where_all_are_alike(self):
        box = ((0, 0, 0), (1, 1, 1))
        for boxes in ([box] * 200, self.chance_boxes(200), [((x, 0, 0), (x, 0, 0)) for x in range(200)]):
            self.assertEqual(height(tree_about(boxes)), 9)

    def test_numbers_of_the_boxes_that_the_ray_meets(self):
        boxes = self.chance_boxes(60)
        tree = tree_about(boxes)
        for start in itertools.product((-10, -4, 0, 9), repeat=3):
            for way in ((1, 0, 0), (0, -1, 0), (1, 1, 1), (-1, 2, 0), (2, -3, 1), (0, -1, -1)):
                ray = (start, way)
                met = [number for number, box in enumerate(boxes) if meets_box(ray, box) is not None]
                self.assertEqual(sorted(numbers_along(tree, ray)), met)

    def test_what_lies_in_a_box_that_is_not_met_is_not_looked_at(self):
        tree = tree_about([((x, 0, 0), (x + 1, 1, 1)) for x in range(0, 400, 2)])
        tree.halves[1].halves = None
        self.assertEqual(numbers_along(tree, ((3, -1, 0), (0, 1, 0))), [1])
        with self.assertRaises(TypeError):
            numbers_along(tree, ((399, -1, 0), (0, 1, 0)))


if __name__ == "__main__":
    unittest.main()
