"""Segments and triangles: when a ray meets one first, edges and corners too."""

from firsthit.vectors import cross, dot, is_less, lowest_terms, way_between


def edges_of(triangle):
    return [(triangle[0], triangle[1]), (triangle[1], triangle[2]), (triangle[2], triangle[0])]


def meets_along(ray, one, other):
    # The segment has the ray's way, or is one point: it lies on the ray's line, or beside it.
    way = ray[1]
    to_one = way_between(ray[0], one)
    if cross(to_one, way) != (0, 0, 0):
        return None
    tops = (dot(to_one, way), dot(way_between(ray[0], other), way))
    if max(tops) < 0:
        return None
    # An end behind the start and one ahead have the start between them.
    return lowest_terms((max(min(tops), 0), dot(way, way)))


def meets_segment(ray, one, other):
    way = ray[1]
    span = way_between(one, other)
    upright = cross(way, span)
    if upright == (0, 0, 0):
        return meets_along(ray, one, other)
    to_one = way_between(ray[0], one)
    if dot(to_one, upright) != 0:
        # The two lines lie in no common plane, so they pass each other by.
        return None
    # Both the time and the share of the span at which the lines meet have this under.
    under = dot(upright, upright)
    top = dot(cross(to_one, span), upright)
    share = dot(cross(to_one, way), upright)
    if top < 0 or share < 0 or share > under:
        return None
    return lowest_terms((top, under))


def meets_edges(ray, triangle):
    best = None
    for one, other in edges_of(triangle):
        time = meets_segment(ray, one, other)
        if time is not None and (best is None or is_less(time, best)):
            best = time
    return best


def goes_through(start, way, triangle):
    # Whether the line, ahead and behind, has a point of a triangle whose plane it crosses:
    # it passes all edges on the same side, or touches them.
    gone = [way_between(start, corner) for corner in triangle]
    sides = [dot(way, cross(one, other)) for one, other in edges_of(gone)]
    return min(sides) >= 0 or max(sides) <= 0


def meets_within_plane(ray, triangle, upright):
    # The upright crosses the plane at the start and nowhere else.
    if goes_through(ray[0], upright, triangle):
        return (0, 1)
    return meets_edges(ray, triangle)


def meets_triangle(ray, triangle):
    upright = cross(way_between(triangle[0], triangle[1]), way_between(triangle[0], triangle[2]))
    if upright == (0, 0, 0):
        # The corners lie on a line: such a triangle is no more than its edges.
        return meets_edges(ray, triangle)
    top = dot(way_between(ray[0], triangle[0]), upright)
    under = dot(ray[1], upright)
    if under == 0:
        return meets_within_plane(ray, triangle, upright) if top == 0 else None
    if under < 0:
        top = -top
        under = -under
    if top < 0 or not goes_through(ray[0], ray[1], triangle):
        return None
    return lowest_terms((top, under))
