"""Ratios of whole numbers, which the other files share.

A ratio is a tuple (top, under), under above 0. While times are compared they
may still have a common divisor; what is told to an asker goes through
lowest_terms first, so that like times are like tuples.
"""


def common_divisor(one, other):
    while other != 0:
        rest = one % other
        one = other
        other = rest
    return abs(one)


def lowest_terms(ratio):
    divisor = common_divisor(ratio[0], ratio[1])
    return (ratio[0] // divisor, ratio[1] // divisor)


def is_less(one, other):
    # Both unders are above 0, so multiplying by them turns no comparison round.
    return one[0] * other[1] < other[0] * one[1]
