"""Two boxes that move evenly in the time from 0 to 1."""

from steadybodies.boxes import check_box, ends_of
from steadybodies.ratios import compare, minus
from steadybodies.spans import common_span, passing
from steadybodies.vectors import subtract


def overlap_times(a, move_a, b, move_b):
    """The ends of the times at which two moving boxes overlap, or None."""
    check_box(a)
    check_box(b)
    spans = []
    for (low_a, high_a), (low_b, high_b), way in zip(ends_of(a), ends_of(b), subtract(move_b, move_a)):
        low = minus(low_a, high_b)
        high = minus(high_a, low_b)
        if way[0] != 0:
            spans.append(passing(low, high, way))
        elif low[0] >= 0 or high[0] <= 0:
            return None
    enter, leave = common_span(spans)
    # At the ends of a span the boxes only touch, so equal ends are no time of overlapping.
    if compare(enter, leave) >= 0:
        return None
    return (enter, leave)


def first_contact(a, move_a, b, move_b):
    """The time at which the overlapping of two moving boxes begins, or None."""
    pair = overlap_times(a, move_a, b, move_b)
    if pair is None:
        return None
    return pair[0]
