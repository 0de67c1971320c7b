"""Points that move evenly in the time from 0 to 1, and a box that stands still."""

from steadybodies.boxes import check_box, ends_of
from steadybodies.ratios import compare, minus
from steadybodies.spans import common_span, passing


def ray_stretch(box, origin, path):
    """The first and the last time at which the point lies in the box or on its border, or None."""
    check_box(box)
    return stretch_within(ends_of(box), origin, path)


def stretch_within(ends, origin, path):
    """The ray_stretch of a box with these ends."""
    spans = []
    for (low_end, high_end), start, way in zip(ends, origin, path):
        low = minus(low_end, start)
        high = minus(high_end, start)
        if way[0] != 0:
            spans.append(passing(low, high, way))
        elif low[0] > 0 or high[0] < 0:
            return None
    first, last = common_span(spans)
    if compare(first, last) > 0:
        return None
    return (first, last)


def ray_time(box, origin, path):
    """The first time at which the point lies in the box or on its border, or None."""
    check_box(box)
    return time_within(ends_of(box), origin, path)


def time_within(ends, origin, path):
    """The ray_time of a box with these ends."""
    pair = stretch_within(ends, origin, path)
    if pair is None:
        return None
    return pair[0]
