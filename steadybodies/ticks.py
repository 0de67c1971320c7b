"""Ticks: the speeds that bodies settle on, and the state behind them."""

from steadybodies.judging import check_nearest
from steadybodies.rows import check_pushes, plain_rows
from steadybodies.settling import point_at, settle, task_of
from steadybodies.states import STANDING, is_moving
from steadybodies.vectors import add


def settled(state, pushes):
    """The pair (speeds, forces) of a tick."""
    check_pushes(state, pushes)
    return settle(state, pushes)


def check_forces(state, pushes, speeds, forces):
    """Whether speeds and forces are those of a tick."""
    check_pushes(state, pushes)
    return are_forces(state, pushes, speeds, forces)


def are_forces(state, pushes, speeds, forces):
    """The check_forces of a state and pushes that have been checked."""
    if not are_possible(state[0], speeds):
        return False
    rows = plain_rows(state, pushes)
    line_of = {row[0]: line for line, row in enumerate(rows)}
    if any(name not in line_of for name, _ in forces):
        return False
    amounts = tuple([(line_of[name], amount) for name, amount in forces])
    weights, wishes, lines = task_of(state, pushes, rows)
    return check_nearest(weights, wishes, lines, point_at(state, speeds), amounts)


def are_possible(bodies, speeds):
    """Whether there is a speed for each body, and 0 for fixed ones."""
    if len(speeds) != len(bodies):
        return False
    return all(is_moving(body) or speed == STANDING for body, speed in zip(bodies, speeds))


def tick(state, pushes):
    """The pair (state, forces) behind a tick."""
    check_pushes(state, pushes)
    return ticked(state, pushes)


def ticked(state, pushes):
    """The pair (state, forces) behind a tick, for a state and pushes that have been checked."""
    speeds, forces = settle(state, pushes)
    return (with_speeds(state, speeds), forces)


def with_speeds(state, speeds):
    """The state behind a tick with these speeds."""
    bodies, joints, pull = state
    new_bodies = [
        (name, add(place, speed), size, mass, grip, speed)
        for (name, place, size, mass, grip, _), speed in zip(bodies, speeds)
    ]
    return (tuple(new_bodies), joints, pull)
