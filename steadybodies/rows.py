"""Rows: what the speeds of a tick have to keep.

A row is a tuple (name, parts, bound). Two bodies are looked at as a pair of items (body, ends, free speed).
"""

from steadybodies.boxes import ends_of, gap_of_ends
from steadybodies.errors import IdError, PushError
from steadybodies.ratios import ONE, ZERO, compare, least, minus, plus
from steadybodies.states import (
    STANDING, are_moving_names, box_of_body, check_state, is_moving, joint_way, places_of,
)
from steadybodies.vectors import add, scale

MINUS_ONE = (-1, 1)


def check_pushes(state, pushes):
    """Raises the errors of the state, or PushError if the pushes are out of order or one is not of a moving body."""
    check_state(state)
    check_pushed(state, pushes)


def check_pushed(state, pushes):
    """Raises PushError as check_pushes does, for a state that has been checked."""
    if not are_moving_names(state[0], [name for name, _ in pushes]):
        raise PushError("a push is out of order or not one of a moving body")


def free_speeds(state, pushes):
    """The free speeds of all bodies, in order."""
    check_pushes(state, pushes)
    return tuple([item[2] for item in items_of(state, pushes)])


def axis_of(state, pushes, one, other):
    """The axis of two bodies, given by their names."""
    check_pushes(state, pushes)
    found = {item[0][0]: item for item in items_of(state, pushes)}
    if one == other or one not in found or other not in found:
        raise IdError("no two different bodies have these names")
    return axis_of_items(found[one], found[other])


def rows_of(state, pushes):
    """All rows of a state and pushes."""
    check_pushes(state, pushes)
    return plain_rows(state, pushes)


def plain_rows(state, pushes):
    """All rows, for a state and pushes that have been checked."""
    fixed = {body[0]: True for body in state[0] if not is_moving(body)}
    return tuple([
        (name, tuple([part for part in parts if part[0] not in fixed]), bound)
        for name, parts, bound in full_rows(state, pushes)
    ])


def full_rows(state, pushes):
    """All rows, but with the parts that fixed bodies would have in them."""
    rows = []
    for one, other in pairs_of(items_of(state, pushes)):
        rows.extend(rows_of_items(one, other))
    return rows + rows_of_joints(state)


def items_of(state, pushes):
    """For each body the item (body, ends, free speed)."""
    bodies, _, pull = state
    push_of = dict(pushes)
    return [
        (body, ends_of(box_of_body(body)), free_speed(body, pull, push_of.get(body[0], STANDING)))
        for body in bodies
    ]


def free_speed(body, pull, push):
    """The free speed of a body under a push."""
    _, _, _, mass, _, speed = body
    if not is_moving(body):
        return speed
    return add(speed, add(pull, scale(push, (1, mass))))


def pairs_of(items):
    """Any two items, in order, whose bodies are not both fixed."""
    return [
        (one, other)
        for at, one in enumerate(items)
        for other in items[at + 1:]
        if is_moving(one[0]) or is_moving(other[0])
    ]


def gap_of_items(one, other, axis):
    """The gap of two items on an axis."""
    return gap_of_ends(one[1][axis], other[1][axis])


def in_line(one, other, axis):
    """Two items with a gap of at least 0 on an axis: the one behind, then the other one."""
    if compare(one[1][axis][1], other[1][axis][0]) <= 0:
        return (one, other)
    return (other, one)


def end_gap(one, other, axis):
    """The gap that two items would have after the tick with their free speeds."""
    behind, front = in_line(one, other, axis)
    nearing = minus(front[2][axis], behind[2][axis])
    return plus(gap_of_items(one, other, axis), nearing)


def axis_of_items(one, other):
    """The axis of two items."""
    if gap_of_items(one, other, 0)[0] < 0:
        return 1
    if gap_of_items(one, other, 1)[0] < 0:
        return 0
    if compare(end_gap(one, other, 1), end_gap(one, other, 0)) > 0:
        return 1
    return 0


def rows_of_items(one, other):
    """The rows that keep two bodies apart: two if they touch and both have grip, otherwise one."""
    axis = axis_of_items(one, other)
    gap_here = gap_of_items(one, other, axis)
    behind, front = in_line(one, other, axis)
    grip = least((one[0][4], other[0][4]))
    nearing = [(front[0], axis, ONE), (behind[0], axis, MINUS_ONE)]
    slopes = [ZERO]
    if grip != ZERO and gap_here == ZERO and gap_of_items(one, other, 1 - axis)[0] <= 0:
        slopes = [grip, minus(ZERO, grip)]
    rows = []
    for side, slope in enumerate(slopes):
        sliding = [(front[0], 1 - axis, slope), (behind[0], 1 - axis, minus(ZERO, slope))]
        name = ("apart", one[0][0], other[0][0], side)
        rows.append((name, parts_of(nearing + sliding), minus(ZERO, gap_here)))
    return rows


def parts_of(terms):
    """The parts of a row: terms (body, axis, factor) with names, without zeros, in order."""
    parts = [(body[0], axis, factor) for body, axis, factor in terms if factor != ZERO]
    return tuple(sorted(parts, key=lambda part: (part[0], part[1])))


def rows_of_joints(state):
    """The rows that keep the joints: two for each joint that has a moving body."""
    bodies, joints, _ = state
    named = {body[0]: body for body in bodies}
    places = places_of(bodies)
    rows = []
    for number, joint in enumerate(joints):
        one, other, axis, low, high = joint
        if not is_moving(named[one]) and not is_moving(named[other]):
            continue
        way = joint_way(places, joint)
        widening = parts_of([(named[other], axis, ONE), (named[one], axis, MINUS_ONE)])
        narrowing = parts_of([(named[one], axis, ONE), (named[other], axis, MINUS_ONE)])
        rows.append((("joint", number, 0, 0), widening, minus(low, way)))
        rows.append((("joint", number, 0, 1), narrowing, minus(way, high)))
    return rows
