"""Compounds: several bodies, held together by joints, that move as one."""

from steadybodies.errors import BodyError, IdError, TooLarge
from steadybodies.ratios import ZERO, compare
from steadybodies.states import GRIP_LIMIT, MASS_LIMIT, NAME_LIMIT, box_of_body, check_state, find_body
from steadybodies.unions import pieces
from steadybodies.vectors import subtract

PIECE_LIMIT = 12


def compound(first, boxes, mass, grip, speed):
    """The pair (bodies, joints) of a compound that covers what the boxes cover."""
    parts = pieces(boxes)
    if len(boxes) == 0 or first < 0:
        raise IdError("a compound has no boxes, or its first name is negative")
    if len(parts) > PIECE_LIMIT:
        raise TooLarge("a compound has too many pieces")
    check_worth(mass, grip, first + len(parts) - 1)
    bodies = []
    joints = []
    for name, (place, size) in enumerate(parts, start=first):
        bodies.append((name, place, size, mass, grip, speed))
        if name > first:
            joints.extend(rigid_joints(bodies[0], bodies[-1]))
    return (tuple(bodies), tuple(joints))


def check_worth(mass, grip, last):
    """Raises BodyError if the mass, the grip or the last name of a compound is out of its range."""
    if mass < 1 or mass > MASS_LIMIT or compare(grip, ZERO) < 0 or compare(grip, GRIP_LIMIT) > 0:
        raise BodyError("the mass or the grip of a compound is out of its range")
    if last > NAME_LIMIT:
        raise BodyError("a name of a compound is out of its range")


def rigid_joints(one, other):
    """The joints, one for each axis, that keep a body where it is beside another one."""
    way = subtract(other[1], one[1])
    return [(one[0], other[0], axis, way[axis], way[axis]) for axis in (0, 1)]


def with_compound(state, first, boxes, mass, grip, speed):
    """The state with the bodies and the joints of a compound."""
    check_state(state)
    new_bodies, new_joints = compound(first, boxes, mass, grip, speed)
    bodies, joints, pull = state
    grown = (tuple(sorted([*bodies, *new_bodies], key=lambda body: body[0])), joints + new_joints, pull)
    check_state(grown)
    return grown


def outline(state, names):
    """The pieces of the boxes of some bodies."""
    check_state(state)
    # A name that stands twice counts once, so that there are no more boxes than bodies.
    boxes = {name: box_of_body(find_body(state, name)) for name in names}
    return pieces(tuple(boxes.values()))
