"""A walker: a box that moves along the axes among bodies that stand still."""

from steadybodies.boxes import check_axis, check_box, ends_of, ends_overlap, gap_of_ends
from steadybodies.errors import OverlapError
from steadybodies.ratios import compare, minus, plus
from steadybodies.states import box_of_body, check_state


def walk(state, box, wish, first):
    """The pair (place, blocked) of a box that goes as far as the wish says, on one axis, then on the other one."""
    check_state(state)
    check_box(box)
    check_axis(first)
    obstacles = [ends_of(box_of_body(body)) for body in state[0]]
    if any(ends_overlap(ends_of(box), ends) for ends in obstacles):
        raise OverlapError("the box overlaps a body at the beginning")
    place = [box[0][0], box[0][1]]
    blocked = [False, False]
    for axis in (first, 1 - first):
        ends = ends_of(((place[0], place[1]), box[1]))
        way = free_way(obstacles, ends, wish[axis], axis)
        blocked[axis] = way != wish[axis]
        place[axis] = plus(place[axis], way)
    return ((place[0], place[1]), (blocked[0], blocked[1]))


def free_way(obstacles, ends, wish, axis):
    """The part of a wish on an axis that a box with these ends can go without overlapping an obstacle."""
    way = wish
    for other in obstacles:
        if gap_of_ends(ends[1 - axis], other[1 - axis])[0] < 0:
            way = way_up_to(ends[axis], other[axis], way)
    return way


def way_up_to(own, other, way):
    """The part of a way that ends where the obstacle begins, if the obstacle lies on the way."""
    if way[0] > 0:
        room = minus(other[0], own[1])
        if room[0] >= 0 and compare(room, way) < 0:
            return room
    elif way[0] < 0:
        room = minus(other[1], own[0])
        if room[0] <= 0 and compare(room, way) > 0:
            return room
    return way
