"""Points 1201 to 1203: unions of boxes."""

import random
import unittest
from fractions import Fraction
from itertools import combinations

from helpers import box, fr, low_high, number, plain_gap, random_box, vec
from steadybodies.errors import BoxError, TooLarge
from steadybodies.unions import area, covered, deepest, free_place, pieces

FLAT = (box(0, 0, 0, 1), box(0, 0, 1, 0), box(5, 5, -1, 1), box(0, 0, 1, "-1/2"))
FUNCTIONS = (area, lambda boxes: covered(boxes, vec(0, 0)), deepest, pieces)


def overlap(a, b):
    return all(plain_gap(a, b, axis) < 0 for axis in (0, 1))


def lines_of(boxes, axis):
    return sorted({end for a_box in boxes for end in low_high(a_box, axis)})


def cells_of(boxes):
    """All cells between neighboring lines, each as (low, high) on both axes."""
    xs, ys = lines_of(boxes, 0), lines_of(boxes, 1)
    return [(x, y) for x in zip(xs, xs[1:]) for y in zip(ys, ys[1:])]


def count_at(boxes, cell):
    """How many of the boxes cover a cell."""
    middle = [(low + high) / 2 for low, high in cell]
    return sum(
        all(low_high(a_box, axis)[0] < middle[axis] < low_high(a_box, axis)[1] for axis in (0, 1))
        for a_box in boxes
    )


def random_boxes(rng, most):
    return tuple(random_box(rng, 3) for _ in range(rng.randint(0, most)))


class AreaTest(unittest.TestCase):
    def check(self, boxes, expected):
        self.assertEqual(area(tuple(boxes)), fr(expected))

    def test_none_and_one(self):
        self.check([], 0)
        self.check([box("-1/2", 7, "3/2", "1/3")], "1/2")

    def test_apart_and_touching(self):
        self.check([box(0, 0, 2, 3), box(5, 5, 1, 1)], 7)
        self.check([box(0, 0, 2, 3), box(2, 0, 1, 1), box(-1, 3, 1, 1), box(0, -2, 1, 2)], 10)

    def test_overlapping(self):
        self.check([box(0, 0, 2, 2), box(1, 1, 2, 2)], 7)
        self.check([box(0, 0, 3, 1), box(1, -1, 1, 3)], 5)
        self.check([box(0, 0, 2, 2), box(1, 0, 2, 2), box("3/2", 1, 2, 2)], "17/2")

    def test_equal_and_within(self):
        self.check([box(0, 0, 2, 3)] * 4, 6)
        self.check([box(0, 0, 2, 3), box(1, 1, 1, 1)], 6)
        self.check([box(0, 0, 2, 3), box("1/2", "1/2", "1/2", 1)], 6)

    def test_other_lines_have_no_effect(self):
        ring = [box(0, 0, 3, 1), box(0, 2, 3, 1), box(0, 0, 1, 3), box(2, 0, 1, 3)]
        self.check(ring, 8)
        self.check(ring + [box(1, 1, 1, 1)], 9)

    def test_many(self):
        rng = random.Random(121)
        for _ in range(40):
            boxes = random_boxes(rng, 7)
            expected = sum(
                (x[1] - x[0]) * (y[1] - y[0]) for x, y in cells_of(boxes) if count_at(boxes, (x, y))
            )
            self.check(boxes, expected)


class CoveredTest(unittest.TestCase):
    BOXES = (box(0, 0, 2, 2), box(1, 1, 2, 2), box(0, 0, 2, 2), box(2, 0, 1, 1))

    def check(self, point, expected, boxes=BOXES):
        self.assertEqual(covered(boxes, vec(*point)), expected)

    def test_none(self):
        self.check((0, 0), 0, ())
        for point in ((-1, 0), (4, 1), (0, 3), ("-1/9", 1), (3, "37/12"), ("5/2", "-1/9")):
            self.check(point, 0)

    def test_inside(self):
        self.check(("1/2", "1/2"), 2)
        self.check(("3/2", "3/2"), 3)
        self.check(("5/2", "5/2"), 1)

    def test_borders(self):
        for point in ((0, "1/2"), ("1/2", 0), ("1/2", 2)):
            self.check(point, 2)
        self.check((1, "3/2"), 3)
        self.check((2, "1/2"), 3)
        self.check((3, "1/2"), 1)

    def test_corners(self):
        for point in ((0, 0), (0, 2)):
            self.check(point, 2)
        self.check((2, 0), 3)
        self.check((1, 1), 3)
        self.check((2, 1), 4)
        self.check((2, 2), 3)
        self.check((3, 3), 1)
        self.check((3, 1), 2)

    def test_many(self):
        rng = random.Random(122)
        for _ in range(60):
            boxes = random_boxes(rng, 7)
            point = [Fraction(rng.randint(-6, 9), rng.choice([1, 2])) for _ in range(2)]
            expected = 0
            for a_box in boxes:
                (left, right), (low, high) = low_high(a_box, 0), low_high(a_box, 1)
                expected += left <= point[0] <= right and low <= point[1] <= high
            self.check(point, expected, boxes)


class DeepestTest(unittest.TestCase):
    def check(self, boxes, expected):
        self.assertEqual(deepest(tuple(boxes)), expected)

    def test_none_and_one(self):
        self.check([], 0)
        self.check([box(3, 3, "1/9", 2)], 1)

    def test_boxes_that_only_touch(self):
        self.check([box(0, 0, 1, 1), box(1, 0, 1, 1), box(0, 1, 1, 1), box(1, 1, 1, 1)], 1)
        self.check([box(0, 0, 1, 1), box(0, 1, 1, 1), box(0, -1, 1, 1)], 1)
        self.check([box(0, 0, 2, 2), box(1, 1, 1, 1), box(2, 0, 1, 2), box(1, 2, 1, 1)], 2)

    def test_overlapping_equal_and_within(self):
        self.check([box(0, 0, 2, 2), box(1, 1, 2, 2)], 2)
        self.check([box(0, 0, 2, 2)] * 5, 5)
        self.check([box(0, 0, 9, 9), box(1, 1, 3, 3), box(2, 2, 1, 1), box(7, 7, 1, 1)], 3)

    def test_any_two_overlap_but_not_all(self):
        self.check([box(0, 0, 3, 1), box(0, 0, 1, 3), box(0, 2, 3, 1), box(2, 0, 1, 3)], 2)

    def test_many(self):
        rng = random.Random(123)
        for _ in range(40):
            boxes = random_boxes(rng, 7)
            self.check(boxes, max([count_at(boxes, cell) for cell in cells_of(boxes)], default=0))


class PiecesTest(unittest.TestCase):
    def check(self, boxes, expected):
        self.assertEqual(pieces(tuple(boxes)), tuple(expected))

    def test_none_and_one(self):
        self.check([], [])
        self.check([box("-1/2", 7, "3/2", "1/3")], [box("-1/2", 7, "3/2", "1/3")])

    def test_joined_where_they_touch_or_overlap(self):
        self.check([box(0, 1, 1, 1), box(0, 0, 1, 1)], [box(0, 0, 1, 2)])
        self.check([box(0, 0, 1, 2), box(0, 1, 1, 3), box(0, 4, 1, 1)], [box(0, 0, 1, 5)])
        self.check([box(0, 0, 1, 5), box(0, 1, 1, 1), box(0, 3, 1, 1)], [box(0, 0, 1, 5)])
        self.check([box(0, 0, 1, 1), box(0, "3/2", 1, 1)], [box(0, 0, 1, 1), box(0, "3/2", 1, 1)])

    def test_all_ends_are_lines(self):
        self.check([box(0, 0, 2, 1), box(2, 0, 1, 1)], [box(0, 0, 2, 1), box(2, 0, 1, 1)])
        self.check([box(0, 0, 3, 3), box(1, 1, 1, 1)], [box(0, 0, 1, 3), box(1, 0, 1, 3), box(2, 0, 1, 3)])
        expected = [box(0, 0, 1, 1), box(1, 0, 1, 1), box(1, 9, 1, 1), box(2, 9, 1, 1)]
        self.check([box(0, 0, 2, 1), box(1, 9, 2, 1)], expected)

    def test_strips_with_nothing_in_them(self):
        self.check([box(0, 0, 1, 1), box(5, 0, 1, 1)], [box(0, 0, 1, 1), box(5, 0, 1, 1)])

    def test_two_that_overlap(self):
        expected = [box(0, 0, 1, 2), box(1, 0, 1, 3), box(2, 1, 1, 2)]
        self.check([box(0, 0, 2, 2), box(1, 1, 2, 2)], expected)
        self.check([box(1, 1, 2, 2), box(0, 0, 2, 2)], expected)

    def test_the_order_is_by_place_as_numbers(self):
        boxes = [box("1/2", 0, "1/3", 1), box("1/3", 0, "1/6", 1), box(10, 0, 1, 1), box(-2, 0, 1, 1), box(9, 0, 1, 1)]
        self.check(boxes, [boxes[3], boxes[1], boxes[0], boxes[4], boxes[2]])
        boxes = [box(0, y, 1, "1/9") for y in ("1/2", "1/3", 10, -2, 9)]
        self.check(boxes, [boxes[3], boxes[1], boxes[0], boxes[4], boxes[2]])

    def test_many(self):
        rng = random.Random(124)
        for _ in range(40):
            boxes = random_boxes(rng, 7)
            found = pieces(boxes)
            for one, other in combinations(found, 2):
                self.assertFalse(overlap(one, other))
            for cell in cells_of(boxes):
                self.assertEqual(count_at(found, cell), min(1, count_at(boxes, cell)))
            self.check(boxes, self.plain_pieces(boxes))

    def plain_pieces(self, boxes):
        """Cell by cell, a covered cell is put to the piece below it if that one is in the same strip."""
        found = []
        for x, y in cells_of(boxes):
            if count_at(boxes, (x, y)):
                if found and found[-1][0] == x and found[-1][1][1] == y[0]:
                    found[-1] = (x, (found[-1][1][0], y[1]))
                else:
                    found.append((x, y))
        return [box(x[0], y[0], x[1] - x[0], y[1] - y[0]) for x, y in found]


class FreePlaceTest(unittest.TestCase):
    ROOM = box(0, 0, 4, 4)

    def check(self, boxes, size, expected, room=ROOM):
        found = free_place(room, tuple(boxes), vec(*size))
        self.assertEqual(found, expected and vec(*expected))

    def test_without_boxes(self):
        for size in ((1, 1), (4, 4), ("1/2", 3)):
            self.check([], size, (0, 0))
        self.check([], (1, 1), ("-1/2", "7/3"), box("-1/2", "7/3", 1, 1))

    def test_too_large_for_the_room(self):
        for size in ((5, 1), (1, 5), ("41/10", 1), (9, 9)):
            self.check([], size, None)
            self.check([box(0, 0, 1, 1)], size, None)

    def test_least_on_axis_1_then_on_axis_0(self):
        self.check([box(0, 0, 3, 1)], (1, 1), (3, 0))
        self.check([box(0, 0, 3, 1)], (2, 1), (0, 1))
        self.check([box(1, 0, 1, 2), box(0, 3, 4, 1)], (1, 1), (0, 0))
        self.check([box(0, 0, 1, 1), box(3, 0, 1, 1)], (1, 1), (1, 0))
        self.check([box(0, 0, 4, "1/3"), box(0, "1/3", 1, 1)], (1, 1), (1, "1/3"))

    def test_it_just_fits(self):
        self.check([box(0, 0, 1, 4), box(3, 0, 1, 4)], (2, 1), (1, 0))
        self.check([box(0, 0, 1, 4), box(3, 0, 1, 4)], ("21/10", 1), None)
        self.check([box(0, 0, 4, "3/2"), box(0, 2, 4, 2)], (4, "1/2"), (0, "3/2"))
        self.check([box(0, 0, 4, "3/2"), box(0, 2, 4, 2)], (4, "3/5"), None)
        self.check([box(0, 0, 4, 2), box(1, 2, 2, 1)], (1, 1), (0, 2))

    def test_at_the_border(self):
        self.check([box(0, 0, 3, 4)], (1, 4), (3, 0))
        self.check([box(0, 0, 4, 3)], (4, 1), (0, 3))
        self.check([box(0, 0, 3, 4), box(3, 0, 1, 3)], (1, 1), (3, 3))

    def test_boxes_beyond_the_room(self):
        self.check([box(-9, -9, 9, 99), box(-9, -9, 99, 9)], (1, 1), (0, 0))
        self.check([box(-9, -9, 10, 11), box(3, -9, 9, 99)], (2, 1), (1, 0))
        self.check([box(-9, -9, 99, 99)], (1, 1), None)

    def test_no_free_place(self):
        self.check([box(1, 1, 2, 2)], (2, 2), None)
        self.check([box(0, 0, 4, 4)], ("1/9", "1/9"), None)
        self.check([box(0, 0, 2, 4), box(2, 0, 2, 4)], ("1/9", "1/9"), None)

    def test_many(self):
        rng = random.Random(125)
        outcomes = {True: 0, False: 0}
        for _ in range(120):
            boxes = random_boxes(rng, 9)
            size = [Fraction(rng.randint(1, 5), rng.choice([1, 2])) for _ in range(2)]
            room = box(-2, -1, rng.randint(1, 6), rng.randint(1, 6))
            expected = self.plain_place(room, boxes, size)
            self.check(boxes, size, expected, room)
            outcomes[expected is None] += 1
        self.assertGreater(min(outcomes.values()), 15)

    def plain_place(self, room, boxes, size):
        """All places at which the box lies at the room or at a box, on either side."""
        spots = []
        for axis in (0, 1):
            ends = [low_high(room, axis)[0]] + [end for a_box in boxes for end in low_high(a_box, axis)]
            spots.append(sorted({at for end in ends for at in (end, end - size[axis])}))
        for y in spots[1]:
            for x in spots[0]:
                if self.is_within(room, (x, y), size) and not any(overlap(box(x, y, *size), a_box) for a_box in boxes):
                    return (x, y)
        return None

    def is_within(self, room, place, size):
        return all(
            low_high(room, axis)[0] <= place[axis] and place[axis] + size[axis] <= low_high(room, axis)[1]
            for axis in (0, 1)
        )

    def test_errors(self):
        room, size = self.ROOM, vec(1, 1)
        many = (box(0, 0, 1, 1),) * 61
        for flat in FLAT:
            with self.assertRaises(BoxError):
                free_place(room, (box(0, 0, 1, 1), flat), size)
            with self.assertRaises(BoxError):
                free_place(flat, (), size)
            with self.assertRaises(BoxError):
                free_place(room, (), flat[1])
            for wrong_room, wrong_boxes in ((flat, many), (room, many[:60] + (flat,)), (flat, (flat,) * 61)):
                with self.assertRaises(TooLarge):
                    free_place(wrong_room, wrong_boxes, flat[1])
        self.assertEqual(free_place(room, many[:60], size), vec(1, 0))


class LimitsTest(unittest.TestCase):
    def test_60_and_61_boxes(self):
        boxes = tuple(box(2 * (k % 8), 2 * (k // 8), 1, 2) for k in range(61))
        self.assertEqual(number(area(boxes[:60])), 120)
        self.assertEqual(covered(boxes[:60], vec(0, 2)), 2)
        self.assertEqual(deepest(boxes[:60]), 1)
        self.assertEqual(len(pieces(boxes[:60])), 8)
        for function in FUNCTIONS:
            with self.assertRaises(TooLarge):
                function(boxes)

    def test_flat_boxes(self):
        for function in FUNCTIONS:
            for flat in FLAT:
                for boxes in ((flat,), (box(0, 0, 1, 1), flat), (flat, box(0, 0, 1, 1))):
                    with self.assertRaises(BoxError):
                        function(boxes)

    def test_too_large_comes_first(self):
        for function in FUNCTIONS:
            for flat in FLAT:
                with self.assertRaises(TooLarge):
                    function((flat,) + (box(0, 0, 1, 1),) * 60)
