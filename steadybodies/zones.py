"""Zones: boxes that stand still, and the bodies that cross them."""

from steadybodies.boxes import check_box
from steadybodies.rows import check_pushes
from steadybodies.settling import settle
from steadybodies.states import STANDING, box_of_body
from steadybodies.sweeps import overlap_times


def crossings(state, pushes, zone):
    """A tuple (name, enter, leave) for each body that overlaps the zone at some time of the tick."""
    check_pushes(state, pushes)
    check_box(zone)
    speeds, _ = settle(state, pushes)
    found = []
    for body, speed in zip(state[0], speeds):
        times = overlap_times(box_of_body(body), speed, zone, STANDING)
        if times is not None:
            found.append((body[0], times[0], times[1]))
    return tuple(found)
