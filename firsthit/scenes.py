"""Scenes: many shapes, and which of them a ray meets."""

from firsthit.errors import NoShape
from firsthit.shapes import bounds, refuse_standing, time_at
from firsthit.trees import numbers_along, tree_about
from firsthit.vectors import is_less, way_between


def is_sooner(one, other):
    if is_less(one[0], other[0]):
        return True
    # Times in lowest terms are alike only if their tuples are.
    return one[0] == other[0] and one[1] < other[1]


def in_order(hits):
    # Two unlike times are apart by 1 over the product of their unders at least: so
    # many times as far apart, their whole parts are unlike too, and in the same order.
    widest = max([hit[0][1] for hit in hits], default=1)
    scale = widest * widest
    return sorted(hits, key=lambda hit: (hit[0][0] * scale // hit[0][1], hit[1]))


class Scene:
    def __init__(self, shapes):
        self.kept = list(shapes)
        self.tree = tree_about([bounds(shape) for shape in self.kept])

    def size(self):
        return len(self.kept)

    def refuse_no_number(self, number):
        if number < 0 or number >= len(self.kept):
            raise NoShape("no shape has that number")

    def shape(self, number):
        self.refuse_no_number(number)
        return self.kept[number]

    def with_shape(self, shape):
        return Scene(self.kept + [shape])

    def without(self, number):
        self.refuse_no_number(number)
        return Scene(self.kept[:number] + self.kept[number + 1:])

    def hits(self, ray):
        refuse_standing(ray)
        found = []
        for number in numbers_along(self.tree, ray):
            time = time_at(ray, self.kept[number])
            if time is not None:
                found.append((time, number))
        return found

    def first(self, ray):
        best = None
        for hit in self.hits(ray):
            if best is None or is_sooner(hit, best):
                best = hit
        return best

    def every(self, ray):
        return in_order(self.hits(ray))

    def is_free(self, one, other):
        way = way_between(one, other)
        last = (1, 1)
        if way == (0, 0, 0):
            # Whatever way a ray goes, at its start it is at the one point.
            way = (1, 0, 0)
            last = (0, 1)
        hit = self.first((one, way))
        return hit is None or is_less(last, hit[0])
