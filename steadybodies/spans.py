"""Spans: pairs (first, last) of times at which something that moves evenly passes two lines."""

from steadybodies.ratios import ONE, ZERO, greatest, least, over


def passing(low, high, way):
    """The times at which a thing that begins at 0 and moves by way, which is not 0, is at low and at high."""
    at_low = over(low, way)
    at_high = over(high, way)
    if way[0] > 0:
        return (at_low, at_high)
    return (at_high, at_low)


def common_span(spans):
    """The last first time and the first last time of the spans and of the time from 0 to 1."""
    first = ZERO
    last = ONE
    for start, finish in spans:
        first = greatest((first, start))
        last = least((last, finish))
    return (first, last)
