"""Forecasts: which bodies would overlap if nothing kept them apart."""

from steadybodies.ratios import common_denominator
from steadybodies.rows import check_pushes, items_of, pairs_of
from steadybodies.states import box_of_body
from steadybodies.sweeps import first_contact


def forecast(state, pushes):
    """A tuple (time, i, j) for any two bodies that would overlap with their free speeds, ascending."""
    check_pushes(state, pushes)
    found = []
    for (one, _, free_one), (other, _, free_other) in pairs_of(items_of(state, pushes)):
        moment = first_contact(box_of_body(one), free_one, box_of_body(other), free_other)
        if moment is not None:
            found.append((moment, one[0], other[0]))
    return tuple(by_time(found))


def by_time(meetings):
    """Tuples (time, i, j), ascending by time as a number, then by names."""
    common = common_denominator([moment for moment, _, _ in meetings])
    # Over a common denominator the times have the order of their numerators.
    keyed = [(moment[0] * (common // moment[1]), one, other, moment) for moment, one, other in meetings]
    return [(moment, one, other) for _, one, other, moment in sorted(keyed)]
