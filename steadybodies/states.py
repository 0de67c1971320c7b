"""States: tuples (bodies, joints, pull).

A body is a tuple (name, place, size, mass, grip, speed), a joint a tuple (one, other, axis, low, high).
"""

from steadybodies.boxes import ends_of, ends_overlap, is_sized
from steadybodies.errors import BodyError, IdError, JointError, OverlapError, TooLarge
from steadybodies.ratios import ZERO, compare, minus

BODY_LIMIT = 24
JOINT_LIMIT = 24
MASS_LIMIT = 1000
NAME_LIMIT = 999999999
GRIP_LIMIT = (4, 1)
STANDING = ((0, 1), (0, 1))


def check_state(state):
    """Raises the error of the first thing in a state that is not as it should be."""
    bodies, joints, _ = state
    if len(bodies) > BODY_LIMIT or len(joints) > JOINT_LIMIT:
        raise TooLarge("the state has too many bodies or joints")
    check_bodies(bodies)
    check_overlaps(bodies)
    places = places_of(bodies)
    for joint in joints:
        check_joint(places, joint)


def check_bodies(bodies):
    """Raises BodyError for the first body that is out of order or out of its ranges."""
    before = -1
    for body in bodies:
        name = body[0]
        if name > NAME_LIMIT or name <= before or not is_body_sound(body):
            raise BodyError("a body is out of order or out of its ranges")
        before = name


def is_body_sound(body):
    """Whether all of a body but its name is in its range."""
    _, _, size, mass, grip, speed = body
    if not is_sized(size) or mass < 0 or mass > MASS_LIMIT:
        return False
    if compare(grip, ZERO) < 0 or compare(grip, GRIP_LIMIT) > 0:
        return False
    return mass > 0 or speed == STANDING


def check_overlaps(bodies):
    """Raises OverlapError if two bodies overlap."""
    ends = [ends_of(box_of_body(body)) for body in bodies]
    for at, one in enumerate(ends):
        for other in ends[at + 1:]:
            if ends_overlap(one, other):
                raise OverlapError("two bodies overlap")


def check_joint(places, joint):
    """Raises JointError if a joint is not one of two different bodies, out of its ranges, or does not hold."""
    one, other, axis, low, high = joint
    if one == other or one not in places or other not in places:
        raise JointError("a joint is not one of two different bodies")
    if axis not in (0, 1) or compare(low, high) > 0:
        raise JointError("the axis or the range of a joint is wrong")
    way = joint_way(places, joint)
    if compare(way, low) < 0 or compare(way, high) > 0:
        raise JointError("a joint does not hold")


def joint_way(places, joint):
    """The place of the other body of a joint less that of the one, on its axis."""
    one, other, axis, _, _ = joint
    return minus(places[other][axis], places[one][axis])


def is_moving(body):
    """Whether a body is not a fixed one."""
    return body[3] > 0


def are_moving_names(bodies, names):
    """Whether the names strictly ascend and each is that of a moving body."""
    moving = {body[0]: is_moving(body) for body in bodies}
    before = -1
    for name in names:
        if name <= before or not moving.get(name, False):
            return False
        before = name
    return True


def box_of_body(body):
    """The box of a body."""
    return (body[1], body[2])


def places_of(bodies):
    """The places of bodies, by name."""
    return {body[0]: body[1] for body in bodies}


def part_of(state, names):
    """The state with the moving bodies of these names and all fixed ones, and with their joints."""
    bodies, joints, pull = state
    left = {body[0]: body for body in bodies if not is_moving(body) or body[0] in names}
    return (
        tuple(left.values()),
        tuple([joint for joint in joints if joint[0] in left and joint[1] in left]),
        pull,
    )


def body_of(state, name):
    """The body with this name."""
    check_state(state)
    return find_body(state, name)


def find_body(state, name):
    """The body with this name, of a state that has been checked."""
    for body in state[0]:
        if body[0] == name:
            return body
    raise IdError("no body has this name")


def renamed(state, names):
    """The state in which the bodies have new names, given in the order of the bodies."""
    check_state(state)
    bodies, joints, pull = state
    check_new_names(names, len(bodies))
    new_names = {body[0]: name for body, name in zip(bodies, names)}
    new_bodies = [(new_names[body[0]],) + body[1:] for body in bodies]
    new_joints = [(new_names[joint[0]], new_names[joint[1]]) + joint[2:] for joint in joints]
    return (tuple(sorted(new_bodies, key=lambda body: body[0])), tuple(new_joints), pull)


def check_new_names(names, count):
    """Raises IdError if the names are not as many as given, in their range, and all different."""
    if len(names) != count or len(set(names)) != count:
        raise IdError("the names are not as many as the bodies, or two are equal")
    if any(name < 0 or name > NAME_LIMIT for name in names):
        raise IdError("a name is out of its range")
