"""Limbs: bodies that hang together by joints, and how far they can move against each other.

A bound (one, other, most) says that the place of other less that of one is at most a fraction.
"""

from steadybodies.boxes import check_axis
from steadybodies.errors import IdError
from steadybodies.linking import linked_sets
from steadybodies.ratios import ZERO, compare, minus, plus
from steadybodies.states import are_moving_names, check_state, is_moving, places_of


def limbs(state):
    """All sets of bodies that hang together, each the ascending tuple of its names, ascending."""
    check_state(state)
    bodies, joints, _ = state
    return linked_sets([body[0] for body in bodies], [joint[:2] for joint in joints])


def play(state, one, other, axis):
    """The pair of the least and the greatest difference of two places that the joints allow, None for no bound."""
    check_state(state)
    places = places_of(state[0])
    if one not in places or other not in places:
        raise IdError("there are no two such bodies")
    check_axis(axis)
    bounds = bounds_of(state, axis)
    most = most_from(bounds, one).get(other)
    if most is None:
        # Each bound has one the other way, so there is none on the other end either.
        return (None, None)
    return (minus(ZERO, most_from(bounds, other)[one]), most)


def bounds_of(state, axis):
    """What joints and fixed bodies say about the differences of places on an axis."""
    bodies, joints, _ = state
    bounds = []
    for one, other, own_axis, low, high in joints:
        if own_axis == axis:
            bounds.extend([(one, other, high), (other, one, minus(ZERO, low))])
    fixed = [body for body in bodies if not is_moving(body)]
    for one, other in zip(fixed, fixed[1:]):
        way = minus(other[1][axis], one[1][axis])
        bounds.extend([(one[0], other[0], way), (other[0], one[0], minus(ZERO, way))])
    return bounds


def most_from(bounds, start):
    """For each body that bounds lead to, the greatest difference of its place less that of the start."""
    most_of = {start: ZERO}
    # All bounds hold for the places of the state, so no way in a circle makes a difference less, and this ends.
    found = True
    while found:
        found = False
        for one, other, most in bounds:
            if one in most_of:
                reach = plus(most_of[one], most)
                if other not in most_of or compare(reach, most_of[other]) < 0:
                    most_of[other] = reach
                    found = True
    return most_of


def posed(state, places):
    """The state with other places, given as pairs (name, vector)."""
    check_state(state)
    bodies, joints, pull = state
    if not are_moving_names(bodies, [name for name, _ in places]):
        raise IdError("the places are out of order, or one is not that of a moving body")
    place_of = dict(places)
    new_bodies = [(body[0], place_of.get(body[0], body[1])) + body[2:] for body in bodies]
    new_state = (tuple(new_bodies), joints, pull)
    check_state(new_state)
    return new_state
