"""Surfaces, which are lists of triangles: whether one is closed, what it holds, and whether it goes around a point."""

from firsthit.errors import NotClosed
from firsthit.triangles import edges_of, meets_triangle
from firsthit.vectors import cross, dot, way_between


def is_closed(triangles):
    counts = {}
    for triangle in triangles:
        for edge in edges_of(triangle):
            counts[edge] = counts.get(edge, 0) + 1
    # An edge from a point to itself is its own way back, so it opens nothing.
    return all([count == counts.get((edge[1], edge[0]), 0) for edge, count in counts.items()])


def determinant(rows):
    return dot(rows[0], cross(rows[1], rows[2]))


def six_volume(triangles):
    return sum([determinant(triangle) for triangle in triangles])


def sign_of(number):
    if number == 0:
        return 0
    return 1 if number > 0 else -1


def sign_along(upright):
    # The sign of the upright's product with (1, e, e * e), where e is above 0 and as little as need be.
    for number in upright:
        if number != 0:
            return sign_of(number)
    return 0


def goes_out(point, triangle):
    # Of a point that isn't on the triangle: 1 where a ray from there leaves through it, -1 where it comes in, else 0.
    # The ray goes (1, e, e * e): with e little enough it meets no edge of the surface, wherever these lie, while for
    # every way that could be written down there is a surface with an edge on it.
    gone = [way_between(point, corner) for corner in triangle]
    turn = sign_of(determinant(gone))
    # The ray's line goes through the triangle if it passes all edges on one side, and does so ahead of the point if
    # that is the turn's side. A turn of 0: the triangle lies in a plane with the point, which the ray leaves at once.
    sides = [sign_along(cross(one, other)) for one, other in edges_of(gone)]
    return turn if sides == [turn, turn, turn] else 0


def is_on(point, triangle):
    # Whatever way a ray goes, at the time 0 it is at its start.
    return meets_triangle((point, (1, 0, 0)), triangle) == (0, 1)


def place_of(point, triangles):
    if not is_closed(triangles):
        raise NotClosed("the surface is not closed")
    if any([is_on(point, triangle) for triangle in triangles]):
        return 0
    around = sum([goes_out(point, triangle) for triangle in triangles])
    return -1 if around == 0 else 1
