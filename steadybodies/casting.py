"""Rays and boxes that move among bodies that stand still."""

from steadybodies.boxes import check_box
from steadybodies.ratios import compare
from steadybodies.rays import ray_time
from steadybodies.states import STANDING, box_of_body, check_state
from steadybodies.sweeps import first_contact


def cast(state, origin, path):
    """The pair (name, time) of the body that a ray meets first, or None."""
    check_state(state)
    return first_met([(body[0], ray_time(box_of_body(body), origin, path)) for body in state[0]])


def sweep(state, box, move):
    """The pair (name, time) of the body that a moving box overlaps first, or None."""
    check_state(state)
    check_box(box)
    return first_met([(body[0], first_contact(box, move, box_of_body(body), STANDING)) for body in state[0]])


def first_met(meetings):
    """The first pair (name, time) with the least time, of pairs whose times may be None, or None."""
    best = None
    for name, moment in meetings:
        if moment is not None and (best is None or compare(moment, best[1]) < 0):
            best = (name, moment)
    return best
