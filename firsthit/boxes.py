"""Boxes: the least one about some points, and when a ray is in one."""

from firsthit.vectors import is_less, lowest_terms


def numbers_at(points, place):
    return [point[place] for point in points]


def box_around(points):
    low = [min(numbers_at(points, place)) for place in range(3)]
    high = [max(numbers_at(points, place)) for place in range(3)]
    return (tuple(low), tuple(high))


def times_between(start, step, low, high):
    # Turned by the step's sign, the earlier time comes first and each under is above 0.
    if step > 0:
        return ((low - start, step), (high - start, step))
    return ((start - high, -step), (start - low, -step))


def span_in(ray, box):
    # The stay with its times not yet in lowest terms, for those who only compare them.
    first = (0, 1)
    last = None
    for start, step, low, high in zip(ray[0], ray[1], box[0], box[1]):
        if step == 0:
            # Nothing moves at this place: it keeps the ray out for ever, or never.
            if start < low or start > high:
                return None
            continue
        times = times_between(start, step, low, high)
        if is_less(first, times[0]):
            first = times[0]
        if last is None or is_less(times[1], last):
            last = times[1]
    # The way is not (0, 0, 0), so one place at least has set the last time.
    if is_less(last, first):
        return None
    return (first, last)


def stay_in(ray, box):
    span = span_in(ray, box)
    if span is None:
        return None
    return (lowest_terms(span[0]), lowest_terms(span[1]))


def meets_box(ray, box):
    span = span_in(ray, box)
    if span is None:
        return None
    return lowest_terms(span[0])
