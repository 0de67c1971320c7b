"""Unions of boxes: what at least one of some boxes covers, and where there is room beside them.

The sides of a box are its ends on axis 1. A strip is what lies between two neighboring lines on axis 0.
"""

from steadybodies.boxes import barred_ends, check_box, ends_meet, ends_of, point_ends
from steadybodies.errors import TooLarge
from steadybodies.grids import grid_of
from steadybodies.ratios import ZERO, minus, plus, times
from steadybodies.vectors import subtract

BOX_LIMIT = 60


def check_boxes(boxes):
    """Raises TooLarge if there are too many boxes, BoxError if a size of one is not above 0."""
    if len(boxes) > BOX_LIMIT:
        raise TooLarge("there are too many boxes")
    for box in boxes:
        check_box(box)


def area(boxes):
    """The area that at least one of the boxes covers."""
    total = ZERO
    for _, size in pieces(boxes):
        total = plus(total, times(size[0], size[1]))
    return total


def covered(boxes, point):
    """How many of the boxes contain the point, their borders included."""
    check_boxes(boxes)
    spot = point_ends(point)
    return len([box for box in boxes if ends_meet(ends_of(box), spot)])


def deepest(boxes):
    """The greatest number of boxes that have a part in common."""
    check_boxes(boxes)
    lines, ranked = grid_of([ends_of(box) for box in boxes])
    return max([depth_of(sides) for sides in strips_of(lines, ranked)], default=0)


def pieces(boxes):
    """Boxes that do not overlap and together cover what the boxes cover, strip by strip."""
    check_boxes(boxes)
    lines, ranked = grid_of([ends_of(box) for box in boxes])
    found = []
    for at, sides in enumerate(strips_of(lines, ranked)):
        for bottom, top in joined_sides(sides):
            low = (lines[0][at], lines[1][bottom])
            high = (lines[0][at + 1], lines[1][top])
            found.append((low, subtract(high, low)))
    return tuple(found)


def strips_of(lines, ranked):
    """For each strip, in order, the sides of all boxes that reach over it."""
    return [
        [sides for (left, right), sides in ranked if left <= at < right]
        for at in range(len(lines[0]) - 1)
    ]


def depth_of(sides):
    """The greatest number of sides that have more than a point in common."""
    # Where one side ends and another one begins they share a point only, so the end is counted first.
    steps = sorted([(low, 1) for low, _ in sides] + [(high, -1) for _, high in sides])
    depth = 0
    most = 0
    for _, step in steps:
        depth += step
        most = max(most, depth)
    return most


def joined_sides(sides):
    """The sides, joined where they touch or overlap, ascending."""
    joined = []
    for low, high in sorted(sides):
        if joined != [] and low <= joined[-1][1]:
            joined[-1] = (joined[-1][0], max(joined[-1][1], high))
        else:
            joined.append((low, high))
    return joined


def free_place(area_box, boxes, size):
    """The place, least on axis 1, then on axis 0, of a box within the area box that overlaps no box, or None."""
    check_boxes(boxes)
    check_box(area_box)
    check_box((area_box[0], size))
    room = tuple([(low, minus(high, length)) for (low, high), length in zip(ends_of(area_box), size)])
    lines, ranked = grid_of([room] + [barred_ends(box, size) for box in boxes])
    (left, right), (bottom, top) = ranked[0]
    for row in range(bottom, top + 1):
        spot = first_free([sides for sides, (low, high) in ranked[1:] if low < row < high], left)
        if spot <= right:
            return (lines[0][spot], lines[1][row])
    return None


def first_free(stretches, start):
    """The first rank from the start on that lies within none of the stretches, their ends being outside."""
    spot = start
    for low, high in sorted(stretches):
        if low < spot < high:
            spot = high
    return spot
