"""Ratios of whole numbers, and points and ways, which the other files share.

A ratio is a tuple (top, under), under above 0. While times are compared they
may still have a common divisor; what is told to an asker goes through
lowest_terms first, so that like times are like tuples.
"""


def common_divisor(one, other):
    while other != 0:
        rest = one % other
        one = other
        other = rest
    return abs(one)


def lowest_terms(ratio):
    divisor = common_divisor(ratio[0], ratio[1])
    return (ratio[0] // divisor, ratio[1] // divisor)


def is_less(one, other):
    # Both unders are above 0, so multiplying by them turns no comparison round.
    return one[0] * other[1] < other[0] * one[1]


def way_between(one, other):
    return (other[0] - one[0], other[1] - one[1], other[2] - one[2])


def dot(one, other):
    return one[0] * other[0] + one[1] * other[1] + one[2] * other[2]


def cross(one, other):
    return (
        one[1] * other[2] - one[2] * other[1],
        one[2] * other[0] - one[0] * other[2],
        one[0] * other[1] - one[1] * other[0],
    )
