"""Routes: the ways of a box along the axes among bodies that stand still.

A shortest route can be shifted onto the lines on which the box touches a body or has its place at the beginning or
at the goal, so it is sought on the grid of these lines. A node is a pair of ranks, a step leads to a next node.
"""

from heapq import heappop, heappush

from steadybodies.boxes import barred_ends, check_box, ends_of, ends_overlap, point_ends
from steadybodies.errors import OverlapError
from steadybodies.grids import grid_of
from steadybodies.ratios import ZERO, common_denominator, plus
from steadybodies.states import STANDING, box_of_body, check_state
from steadybodies.sweeps import first_contact
from steadybodies.vectors import subtract


def route(state, box, goal):
    """The pair (length, places) of a shortest route of the box to the goal, or None."""
    check_route_task(state, box, goal)
    barred = [barred_ends(box_of_body(body), box[1]) for body in state[0]]
    lines, ranked = grid_of([point_ends(box[0]), point_ends(goal)] + barred)
    start, finish = [(ends[0][0], ends[1][0]) for ends in ranked[:2]]
    nodes = shortest_way(lengths_of(lines), barred_steps(ranked), start, finish)
    if nodes is None:
        return None
    places = tuple([(lines[0][column], lines[1][row]) for column, row in corners_of(nodes)])
    return (length_of(places), places)


def check_route(state, box, goal, places):
    """Whether the places are a route of the box that ends at the goal."""
    check_route_task(state, box, goal)
    if len(places) == 0 or places[0] != box[0] or places[-1] != goal:
        return False
    return all(is_free_step(state, (one, box[1]), subtract(other, one)) for one, other in zip(places, places[1:]))


def length_of(places):
    """The sum of the ways from each place to the next one, on both axes."""
    total = ZERO
    for one, other in zip(places, places[1:]):
        for number, denominator in subtract(other, one):
            total = plus(total, (abs(number), denominator))
    return total


def check_route_task(state, box, goal):
    """Raises the errors of the state, BoxError, or OverlapError for the box at its place or at the goal."""
    check_state(state)
    check_box(box)
    for place in (box[0], goal):
        ends = ends_of((place, box[1]))
        if any(ends_overlap(ends, ends_of(box_of_body(body))) for body in state[0]):
            raise OverlapError("the box overlaps a body at the beginning or at the goal")


def is_free_step(state, box, way):
    """Whether a box moves on one axis at most, and overlaps no body on its way."""
    if way[0] != ZERO and way[1] != ZERO:
        return False
    return all(first_contact(box, way, box_of_body(body), STANDING) is None for body in state[0])


def lengths_of(lines):
    """On each axis the ways from each line to the next one, as integers in a unit that both axes share."""
    common = common_denominator(lines[0] + lines[1])
    spots = [[number * (common // denominator) for number, denominator in some] for some in lines]
    return [[high - low for low, high in zip(some, some[1:])] for some in spots]


def barred_steps(ranked):
    """All steps (axis, column, row), from this node to the next one on the axis, on which a body is in the way."""
    barred = {}
    for (left, right), (bottom, top) in ranked:
        for column in range(left, right):
            for row in range(bottom + 1, top):
                barred[(0, column, row)] = True
        for column in range(left + 1, right):
            for row in range(bottom, top):
                barred[(1, column, row)] = True
    return barred


def steps_from(lengths, barred, node):
    """The pairs (next node, length) of all free steps from a node."""
    column, row = node
    steps = []
    if column > 0 and (0, column - 1, row) not in barred:
        steps.append(((column - 1, row), lengths[0][column - 1]))
    if column < len(lengths[0]) and (0, column, row) not in barred:
        steps.append(((column + 1, row), lengths[0][column]))
    if row > 0 and (1, column, row - 1) not in barred:
        steps.append(((column, row - 1), lengths[1][row - 1]))
    if row < len(lengths[1]) and (1, column, row) not in barred:
        steps.append(((column, row + 1), lengths[1][row]))
    return steps


def shortest_way(lengths, barred, start, finish):
    """The nodes of a shortest way, or None if there is no way."""
    before = {}
    waiting = [(0, start, start)]
    while waiting != [] and finish not in before:
        cost, node, last = heappop(waiting)
        if node not in before:
            before[node] = last
            for other, length in steps_from(lengths, barred, node):
                heappush(waiting, (cost + length, other, node))
    if finish not in before:
        return None
    nodes = [finish]
    while nodes[-1] != start:
        nodes.append(before[nodes[-1]])
    return nodes[::-1]


def corners_of(nodes):
    """The first and the last node of a way, and all nodes between them at which it turns."""
    corners = nodes[:1]
    for one, node, other in zip(nodes, nodes[1:], nodes[2:]):
        if one[0] != other[0] and one[1] != other[1]:
            corners.append(node)
    if len(nodes) > 1:
        corners.append(nodes[-1])
    return corners
