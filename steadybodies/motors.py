"""Motors: pushes that two bodies give each other to reach a speed between them.

A motor is a tuple (one, other, axis, speed, strength).
"""

from steadybodies.boxes import check_axis
from steadybodies.errors import IdError, RowError
from steadybodies.pushing import with_push
from steadybodies.ratios import ZERO, greatest, least, minus, over, plus
from steadybodies.rows import check_pushes, free_speed
from steadybodies.states import STANDING, is_moving


def motor_pushes(state, pushes, motors):
    """The pushes together with those of all motors, which act one after the other."""
    check_pushes(state, pushes)
    bodies = {body[0]: body for body in state[0]}
    for motor in motors:
        check_motor(bodies, motor)
    for motor in motors:
        one, other, axis, _, _ = motor
        amount = amount_of(bodies, state[2], dict(pushes), motor)
        for name, part in ((one, minus(ZERO, amount)), (other, amount)):
            if is_moving(bodies[name]):
                pushes = with_push(pushes, name, along(axis, part))
    return pushes


def check_motor(bodies, motor):
    """Raises the error of a motor, for bodies by name."""
    one, other, axis, _, strength = motor
    if one == other or one not in bodies or other not in bodies:
        raise IdError("a motor is not one of two different bodies")
    check_axis(axis)
    if not is_moving(bodies[one]) and not is_moving(bodies[other]):
        raise RowError("both bodies of a motor are fixed")
    if strength[0] < 0:
        raise RowError("the strength of a motor is negative")


def amount_of(bodies, pull, push_of, motor):
    """The amount by which a motor pushes its other body on its axis."""
    one, other, axis, speed, strength = motor
    free_one, free_other = [
        free_speed(bodies[name], pull, push_of.get(name, STANDING))[axis] for name in (one, other)
    ]
    wish = minus(speed, minus(free_other, free_one))
    amount = over(wish, plus(yielding_of(bodies[one]), yielding_of(bodies[other])))
    return greatest((minus(ZERO, strength), least((strength, amount))))


def yielding_of(body):
    """By how much one unit of push changes the speed of a body."""
    if is_moving(body):
        return (1, body[3])
    return ZERO


def along(axis, amount):
    """The vector that has an amount on an axis and 0 on the other one."""
    if axis == 0:
        return (amount, ZERO)
    return (ZERO, amount)


def joined(pushes, others):
    """Two pushes, added up by name."""
    for name, vector in others:
        pushes = with_push(pushes, name, vector)
    return pushes
