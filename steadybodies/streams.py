"""Streams: a state in two parts, which may be ticked apart from each other."""

from steadybodies.boxes import check_box, meets
from steadybodies.errors import RowError
from steadybodies.linking import linked_sets
from steadybodies.rows import check_pushes, plain_rows
from steadybodies.settling import settle, slacks_of
from steadybodies.states import box_of_body, check_state, is_moving, part_of
from steadybodies.ticks import ticked, with_speeds


def parted(state, region):
    """The pair (inside, outside) of the parts of a state."""
    check_state(state)
    check_box(region)
    return parts_by(state, region)


def parts_by(state, region):
    """The parts of a state, for arguments that have been checked."""
    inside, outside = names_by(state, region)
    return (part_of(state, inside), part_of(state, outside))


def names_by(state, region):
    """Two dicts with the names of the moving bodies that are inside and outside."""
    bodies, joints, _ = state
    near = {body[0]: meets(box_of_body(body), region) for body in bodies if is_moving(body)}
    links = [joint[:2] for joint in joints if joint[0] in near and joint[1] in near]
    inside = {}
    outside = {}
    for names in linked_sets(list(near), links):
        side = inside if any(near[name] for name in names) else outside
        for name in names:
            side[name] = True
    return (inside, outside)


def merged(one, other):
    """The state with the bodies and the joints of two states."""
    check_state(one)
    check_state(other)
    if one[2] != other[2]:
        raise RowError("the states have different pulls")
    body_named = {body[0]: body for body in one[0]}
    for body in other[0]:
        if body_named.get(body[0], body) != body:
            raise RowError("the states have different bodies of the same name")
        body_named[body[0]] = body
    bodies = [body_named[name] for name in sorted(body_named)]
    joints = one[1] + tuple([joint for joint in other[1] if joint not in one[1]])
    whole = (tuple(bodies), joints, one[2])
    check_state(whole)
    return whole


def tick_apart(state, pushes, region):
    """The pair (state behind a tick, whether it could be had by ticks of both parts)."""
    check_pushes(state, pushes)
    check_box(region)
    speed_of = {}
    for part in parts_by(state, region):
        names = {body[0]: True for body in part[0]}
        speeds, _ = settle(part, tuple([push for push in pushes if push[0] in names]))
        for body, speed in zip(part[0], speeds):
            speed_of[body[0]] = speed
    together = tuple([speed_of[body[0]] for body in state[0]])
    if any(slack[0] < 0 for slack in slacks_of(state, plain_rows(state, pushes), together)):
        return (ticked(state, pushes)[0], False)
    return (with_speeds(state, together), True)
