"""The judge of nearest points: whether a point and forces are as they should be."""

from steadybodies.nearest import check_task
from steadybodies.ratios import ZERO, minus, plus, times


def check_nearest(weights, wishes, lines, point, forces):
    """Whether the forces show that the point is the nearest one for which all lines hold."""
    check_task(weights, wishes, lines)
    if len(point) != len(weights):
        return False
    slacks = [slack_of(line, point) for line in lines]
    if any(slack[0] < 0 for slack in slacks):
        return False
    return are_on_tight_lines(slacks, forces) and are_what_pushes(weights, wishes, lines, point, forces)


def slack_of(line, point):
    """How far the sum of a line lies above its bound."""
    parts, bound = line
    slack = minus(ZERO, bound)
    for spot, factor in parts:
        slack = plus(slack, times(factor, point[spot]))
    return slack


def are_on_tight_lines(slacks, forces):
    """Whether the forces are above 0 and on tight lines, strictly ascending."""
    before = -1
    for line, amount in forces:
        if line <= before or line >= len(slacks) or slacks[line] != ZERO or amount[0] <= 0:
            return False
        before = line
    return True


def are_what_pushes(weights, wishes, lines, point, forces):
    """Whether for each coordinate weight times way from the wish is what the forces add up to."""
    pushed = [ZERO] * len(weights)
    for line, amount in forces:
        for spot, factor in lines[line][0]:
            pushed[spot] = plus(pushed[spot], times(amount, factor))
    needed = [
        times((weight, 1), minus(entry, wish))
        for weight, wish, entry in zip(weights, wishes, point)
    ]
    return pushed == needed
