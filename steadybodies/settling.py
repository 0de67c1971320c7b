"""The speeds of a tick, for states and pushes that have been checked."""

from steadybodies.judging import slack_of
from steadybodies.nearest import nearest
from steadybodies.ratios import ZERO
from steadybodies.rows import items_of, plain_rows
from steadybodies.states import STANDING, is_moving


def spots_of(state):
    """The number of the coordinate of each (name of a moving body, axis)."""
    names = [body[0] for body in state[0] if is_moving(body)]
    return {(name, axis): 2 * at + axis for at, name in enumerate(names) for axis in (0, 1)}


def task_of(state, pushes, rows):
    """The weights, wishes and lines to which the speeds of a tick are the nearest point."""
    weights = []
    wishes = []
    for body, _, free in items_of(state, pushes):
        if is_moving(body):
            weights.extend([body[3], body[3]])
            wishes.extend([free[0], free[1]])
    return (tuple(weights), tuple(wishes), lines_of_rows(state, rows))


def lines_of_rows(state, rows):
    """The line of each row."""
    spots = spots_of(state)
    return tuple([
        (tuple([(spots[(name, axis)], factor) for name, axis, factor in parts]), bound)
        for _, parts, bound in rows
    ])


def settle(state, pushes):
    """The pair (speeds, forces) of a tick."""
    rows = plain_rows(state, pushes)
    weights, wishes, lines = task_of(state, pushes, rows)
    point, amounts = nearest(weights, wishes, lines)
    forces = tuple([(rows[line][0], amount) for line, amount in amounts])
    return (speeds_at(state, point), forces)


def speeds_at(state, point):
    """The speeds of all bodies, in order, by the point of their coordinates."""
    spots = spots_of(state)
    speeds = []
    for body in state[0]:
        if is_moving(body):
            at = spots[(body[0], 0)]
            speeds.append((point[at], point[at + 1]))
        else:
            speeds.append(STANDING)
    return tuple(speeds)


def point_at(state, speeds):
    """The point of the coordinates by the speeds of all bodies."""
    point = []
    for body, speed in zip(state[0], speeds):
        if is_moving(body):
            point.extend([speed[0], speed[1]])
    return tuple(point)


def slacks_of(state, rows, speeds):
    """For each row how far its sum lies above its bound for the speeds of all bodies."""
    point = point_at(state, speeds)
    return [slack_of(line, point) for line in lines_of_rows(state, rows)]


def tight_rows(state, pushes, speeds):
    """All rows that are tight for the speeds of all bodies."""
    rows = plain_rows(state, pushes)
    return [row for row, slack in zip(rows, slacks_of(state, rows, speeds)) if slack == ZERO]
