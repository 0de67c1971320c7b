"""Trees of boxes: boxes under names, and which of them a box, a ray or a point finds."""

from steadybodies.boxes import check_box, ends_of, gap_of_ends, point_ends
from steadybodies.branches import leaf_of, least_leaf, names_meeting, with_leaf, without_leaf
from steadybodies.broad import check_unused, check_used
from steadybodies.ratios import ZERO, greatest
from steadybodies.rays import time_within
from steadybodies.vectors import dot


class Tree:
    """Holds boxes under names in a tree of hulls."""

    def __init__(self):
        self._boxes = {}
        self._top = None

    @property
    def names(self):
        """All names, ascending."""
        return tuple(sorted(self._boxes))

    def add(self, name, box):
        """Puts a box under a new name."""
        check_unused(self._boxes, name)
        check_box(box)
        self._put(name, box)

    def move(self, name, box):
        """Puts another box under a name."""
        check_used(self._boxes, name)
        check_box(box)
        self._take(name)
        self._put(name, box)

    def remove(self, name):
        """Removes a name and its box."""
        check_used(self._boxes, name)
        self._take(name)

    def box_of(self, name):
        """The box of a name."""
        check_used(self._boxes, name)
        return self._boxes[name]

    def near(self, box):
        """All names whose boxes meet a box, ascending."""
        check_box(box)
        return tuple(names_meeting(self._top, ends_of(box)))

    def hit(self, origin, path):
        """The pair (name, time) of the box that a ray meets first, or None."""
        return least_leaf(self._top, lambda ends: time_within(ends, origin, path))

    def closest(self, point):
        """The pair (name, square) of the box with the least square of the distance of the point, or None."""
        return least_leaf(self._top, lambda ends: square_of_distance(ends, point))

    def depth(self):
        """The number of boxes, hulls included, on the longest way from the top to a single box."""
        if self._top is None:
            return 0
        return self._top[1]

    def _put(self, name, box):
        self._boxes[name] = box
        self._top = with_leaf(self._top, leaf_of(name, ends_of(box)))

    def _take(self, name):
        self._top = without_leaf(self._top, leaf_of(name, ends_of(self._boxes[name])))
        del self._boxes[name]


def square_of_distance(ends, point):
    """The square of the distance of a point from a box with these ends."""
    spot = point_ends(point)
    way = tuple([greatest((ZERO, gap_of_ends(ends[axis], spot[axis]))) for axis in (0, 1)])
    return dot(way, way)
