"""Shapes, which are boxes and triangles: what is none, when a ray meets one, and the box about one."""

from firsthit.boxes import box_around, meets_box
from firsthit.errors import NoRay, NoShape
from firsthit.triangles import meets_triangle


def refuse_standing(ray):
    if ray[1] == (0, 0, 0):
        raise NoRay("the ray's way is (0, 0, 0)")


def are_in_order(low, high):
    return all([least <= most for least, most in zip(low, high)])


def is_shape(shape):
    # By slices, as a tuple without parts has no first one to ask for.
    if shape[:1] == ("box",):
        return len(shape) == 3 and are_in_order(shape[1], shape[2])
    return shape[:1] == ("triangle",) and len(shape) == 4


def refuse_no_shape(shape):
    if not is_shape(shape):
        raise NoShape("neither a box with its corners in order nor a triangle")


def time_at(ray, shape):
    # Of a ray and a shape that have been looked at already.
    if shape[0] == "box":
        return meets_box(ray, shape[1:])
    return meets_triangle(ray, shape[1:])


def meets(ray, shape):
    refuse_standing(ray)
    refuse_no_shape(shape)
    return time_at(ray, shape)


def bounds(shape):
    refuse_no_shape(shape)
    return box_around(list(shape[1:]))
