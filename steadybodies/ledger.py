"""What a state and its forces add up to, and where bodies touch."""

from steadybodies.boxes import stretch
from steadybodies.errors import RowError
from steadybodies.ratios import ZERO, plus, times
from steadybodies.rows import check_pushes, full_rows, items_of, pairs_of
from steadybodies.states import STANDING, box_of_body, check_state, find_body
from steadybodies.vectors import add, dot, scale


def momentum(state):
    """The sum of mass times speed."""
    check_state(state)
    total = STANDING
    for _, _, _, mass, _, speed in state[0]:
        total = add(total, scale(speed, (mass, 1)))
    return total


def energy(state):
    """The sum of mass times the square of the speed."""
    check_state(state)
    total = ZERO
    for _, _, _, mass, _, speed in state[0]:
        total = plus(total, times(dot(speed, speed), (mass, 1)))
    return total


def force_on(state, pushes, forces, name):
    """The sum of the forces on a body, which may be a fixed one."""
    check_pushes(state, pushes)
    find_body(state, name)
    return sums_by_body(state, pushes, forces)[name]


def sums_by_body(state, pushes, forces):
    """The sum of the forces on each body, by name, for a state and pushes that have been checked."""
    parts_of_row = {row[0]: row[1] for row in full_rows(state, pushes)}
    sums = {body[0]: [ZERO, ZERO] for body in state[0]}
    for row_name, amount in forces:
        if row_name not in parts_of_row:
            raise RowError("a force is not one of a row")
        for name, axis, factor in parts_of_row[row_name]:
            sums[name][axis] = plus(sums[name][axis], times(amount, factor))
    return {name: (x, y) for name, (x, y) in sums.items()}


def contacts(state):
    """A tuple (i, j, axis, low, high) for any two bodies, not both fixed, and each axis on which they touch."""
    check_state(state)
    found = []
    for (one, _, _), (other, _, _) in pairs_of(items_of(state, ())):
        for axis in (0, 1):
            shared = stretch(box_of_body(one), box_of_body(other), axis)
            if shared is not None:
                found.append((one[0], other[0], axis, shared[0], shared[1]))
    return tuple(found)
