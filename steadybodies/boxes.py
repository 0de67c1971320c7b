"""Boxes: tuples (place, size) of two vectors.

The ends of a box are a pair (low, high) for each axis. The functions over ends check nothing.
"""

from steadybodies.errors import AxisError, BoxError
from steadybodies.ratios import compare, greatest, least, minus, plus
from steadybodies.vectors import add, subtract


def is_sized(size):
    """Whether the lengths on both axes are above 0."""
    return size[0][0] > 0 and size[1][0] > 0


def check_box(box):
    """Raises BoxError if a size is not above 0."""
    if not is_sized(box[1]):
        raise BoxError("a size of a box is not above 0")


def check_axis(axis):
    """Raises AxisError if an axis is not 0 or 1."""
    if axis not in (0, 1):
        raise AxisError("an axis is not 0 or 1")


def ends_of(box):
    """The ends of a box: a pair (low, high) for each axis."""
    (x, y), (width, height) = box
    return ((x, plus(x, width)), (y, plus(y, height)))


def gap_of_ends(one, other):
    """The gap of two pairs (low, high) on the same axis."""
    return greatest((minus(other[0], one[1]), minus(one[0], other[1])))


def ends_overlap(one, other):
    """Whether two boxes with these ends overlap."""
    return all(
        compare(other[axis][0], one[axis][1]) < 0 and compare(one[axis][0], other[axis][1]) < 0
        for axis in (0, 1)
    )


def ends_meet(one, other):
    """Whether two boxes with these ends meet."""
    return all(
        compare(other[axis][0], one[axis][1]) <= 0 and compare(one[axis][0], other[axis][1]) <= 0
        for axis in (0, 1)
    )


def hull_of_ends(one, other):
    """The ends of the least box that contains two boxes with these ends."""
    return tuple([
        (least((low_one, low_other)), greatest((high_one, high_other)))
        for (low_one, high_one), (low_other, high_other) in zip(one, other)
    ])


def point_ends(point):
    """The ends of a point: those of a box without lengths."""
    return ((point[0], point[0]), (point[1], point[1]))


def barred_ends(box, size):
    """The ends of all places at which a box with a size overlaps the given one; at the ends it does not."""
    return tuple([(minus(low, length), high) for (low, high), length in zip(ends_of(box), size)])


def gap(a, b, axis):
    """The gap of two boxes on an axis, negative where they have more than a point in common."""
    check_box(a)
    check_box(b)
    check_axis(axis)
    return gap_of_ends(ends_of(a)[axis], ends_of(b)[axis])


def overlaps(a, b):
    """Whether two boxes have an area in common."""
    check_box(a)
    check_box(b)
    return ends_overlap(ends_of(a), ends_of(b))


def meets(a, b):
    """Whether two boxes have at least a point in common."""
    check_box(a)
    check_box(b)
    return ends_meet(ends_of(a), ends_of(b))


def stretch(a, b, axis):
    """What two boxes that touch on an axis have in common on the other one, or None."""
    check_box(a)
    check_box(b)
    check_axis(axis)
    one = ends_of(a)
    other = ends_of(b)
    if gap_of_ends(one[axis], other[axis])[0] != 0:
        return None
    (low_one, high_one), (low_other, high_other) = one[1 - axis], other[1 - axis]
    low = greatest((low_one, low_other))
    high = least((high_one, high_other))
    if compare(low, high) > 0:
        return None
    return (low, high)


def moved(box, vector):
    """The box at its place plus a vector."""
    check_box(box)
    return (add(box[0], vector), box[1])


def hull(a, b):
    """The least box that contains two boxes."""
    check_box(a)
    check_box(b)
    (left, right), (bottom, top) = hull_of_ends(ends_of(a), ends_of(b))
    low = (left, bottom)
    return (low, subtract((right, top), low))
