"""Points 201 and 202: boxes."""

import itertools
import random
import unittest

from helpers import box, fr, low_high, plain_gap, random_box, vec
from steadybodies.boxes import gap, hull, meets, moved, overlaps, stretch
from steadybodies.errors import AxisError, BoxError

GOOD = box(0, 0, 2, 1)
FLAT = [box(0, 0, 0, 1), box(0, 0, 1, 0), box(0, 0, -1, 1), box(0, 0, 1, "-1/2"), box(0, 0, 0, 0), box(5, 5, -1, -1)]


def samples(seed, count):
    rng = random.Random(seed)
    for _ in range(count):
        yield random_box(rng), random_box(rng)


class GapTest(unittest.TestCase):
    def check(self, a, b, gaps):
        for axis in (0, 1):
            self.assertEqual(gap(a, b, axis), fr(gaps[axis]))
            self.assertEqual(gap(b, a, axis), fr(gaps[axis]))

    def test_the_example_of_the_document(self):
        self.assertEqual(gap(box(0, 0, 2, 1), box("5/2", 0, 1, 1), 0), (1, 2))

    def test_apart(self):
        self.check(GOOD, box("5/2", 4, 1, 1), ("1/2", 3))
        self.check(GOOD, box(-3, -3, 1, 1), (2, 2))

    def test_touching(self):
        self.check(GOOD, box(2, 0, 1, 1), (0, -1))
        self.check(GOOD, box("1/2", 1, 1, 1), ("-3/2", 0))
        self.check(GOOD, box(2, 1, 1, 1), (0, 0))

    def test_overlapping_inside_and_equal(self):
        self.check(GOOD, box(1, "1/2", 5, 5), (-1, "-1/2"))
        self.check(GOOD, box("1/2", "1/4", 1, "1/2"), ("-3/2", "-3/4"))
        self.check(GOOD, box("1/4", "1/8", "1/2", "1/4"), ("-3/4", "-3/8"))
        self.check(GOOD, GOOD, (-2, -1))

    def test_many(self):
        for a, b in samples(4, 300):
            for axis in (0, 1):
                self.assertEqual(gap(a, b, axis), fr(plain_gap(a, b, axis)))


class MeetingTest(unittest.TestCase):
    def check(self, other, overlapping, meeting):
        for pair in ((GOOD, other), (other, GOOD)):
            self.assertIs(overlaps(*pair), overlapping)
            self.assertIs(meets(*pair), meeting)

    def test_apart(self):
        self.check(box(3, 0, 1, 1), False, False)
        self.check(box(0, "3/2", 1, 1), False, False)
        self.check(box(3, 3, 1, 1), False, False)

    def test_touching_at_an_edge(self):
        self.check(box(2, 0, 1, 1), False, True)
        self.check(box(-1, "1/2", 1, 5), False, True)
        self.check(box(0, 1, 2, 1), False, True)
        self.check(box(0, -1, 2, 1), False, True)

    def test_touching_at_a_corner(self):
        self.check(box(2, 1, 1, 1), False, True)
        self.check(box(-1, 1, 1, 1), False, True)
        self.check(box(2, -1, 1, 1), False, True)
        self.check(box(-1, -1, 1, 1), False, True)

    def test_touching_on_one_axis_but_apart_on_the_other_one(self):
        self.check(box(2, 2, 1, 1), False, False)
        self.check(box(3, 1, 1, 1), False, False)

    def test_overlapping_inside_and_equal(self):
        self.check(box(1, "1/2", 5, 5), True, True)
        self.check(box("1/2", "1/4", 1, "1/2"), True, True)
        self.check(box(-1, -1, 9, 9), True, True)
        self.check(GOOD, True, True)

    def test_many(self):
        for a, b in samples(5, 300):
            gaps = [plain_gap(a, b, axis) for axis in (0, 1)]
            self.assertIs(overlaps(a, b), max(gaps) < 0)
            self.assertIs(meets(a, b), max(gaps) <= 0)


class StretchTest(unittest.TestCase):
    def check(self, other, on_axes):
        for axis in (0, 1):
            expected = on_axes[axis] and (fr(on_axes[axis][0]), fr(on_axes[axis][1]))
            self.assertEqual(stretch(GOOD, other, axis), expected)
            self.assertEqual(stretch(other, GOOD, axis), expected)

    def test_touching_at_an_edge(self):
        self.check(box(2, "1/2", 1, 5), (("1/2", 1), None))
        self.check(box(2, "1/4", 1, "1/4"), (("1/4", "1/2"), None))
        self.check(box(-1, -3, 1, 9), ((0, 1), None))
        self.check(box("1/2", 1, 9, 1), (None, ("1/2", 2)))
        self.check(box(-5, -2, 6, 2), (None, (0, 1)))

    def test_touching_at_a_corner(self):
        self.check(box(2, 1, 1, 1), ((1, 1), (2, 2)))
        self.check(box(-1, -1, 1, 1), ((0, 0), (0, 0)))
        self.check(box(2, -3, 4, 3), ((0, 0), (2, 2)))

    def test_not_touching(self):
        for other in (GOOD, box(1, "1/2", 5, 5), box(3, 0, 1, 1), box(3, 3, 1, 1), box("1/2", "1/4", 1, "1/2")):
            self.check(other, (None, None))

    def test_a_gap_of_zero_but_apart_on_the_other_axis(self):
        self.check(box(2, 2, 1, 1), (None, None))
        self.check(box(2, -3, 1, 1), (None, None))
        self.check(box(5, 1, 1, 1), (None, None))

    def test_many(self):
        for a, b in samples(6, 400):
            for axis in (0, 1):
                expected = None
                if plain_gap(a, b, axis) == 0 and plain_gap(a, b, 1 - axis) <= 0:
                    (low_a, high_a), (low_b, high_b) = low_high(a, 1 - axis), low_high(b, 1 - axis)
                    expected = (fr(max(low_a, low_b)), fr(min(high_a, high_b)))
                self.assertEqual(stretch(a, b, axis), expected)


class MovedAndHullTest(unittest.TestCase):
    def test_moved(self):
        self.assertEqual(moved(GOOD, vec("1/2", -3)), box("1/2", -3, 2, 1))
        self.assertEqual(moved(box("1/3", 1, 1, 1), vec("2/3", "1/2")), box(1, "3/2", 1, 1))
        self.assertEqual(moved(GOOD, vec(0, 0)), GOOD)

    def test_hull(self):
        cases = [
            (box(3, 4, 1, 1), box(0, 0, 4, 5)),
            (box(2, 1, 1, 1), box(0, 0, 3, 2)),
            (box("1/2", "1/4", 1, "1/2"), GOOD),
            (box(-1, -1, 9, 9), box(-1, -1, 9, 9)),
            (box(1, -2, 5, 1), box(0, -2, 6, 3)),
            (box(-2, "1/2", 1, "1/4"), box(-2, 0, 4, 1)),
            (GOOD, GOOD),
        ]
        for other, expected in cases:
            self.assertEqual(hull(GOOD, other), expected)
            self.assertEqual(hull(other, GOOD), expected)


class WrongBoxesTest(unittest.TestCase):
    def test_two_boxes(self):
        for function in (overlaps, meets, hull):
            for flat in FLAT:
                for pair in ((flat, GOOD), (GOOD, flat), (flat, flat)):
                    with self.assertRaises(BoxError):
                        function(*pair)

    def test_one_box(self):
        for flat in FLAT:
            with self.assertRaises(BoxError):
                moved(flat, vec(1, 1))

    def test_box_error_comes_before_axis_error(self):
        for function, flat, axis in itertools.product((gap, stretch), FLAT, (-1, 0, 1, 2)):
            for pair in ((flat, GOOD), (GOOD, flat), (flat, flat)):
                with self.assertRaises(BoxError):
                    function(*pair, axis)

    def test_axis_error(self):
        for function, axis in itertools.product((gap, stretch), (-1, 2, 3, -2)):
            for other in (GOOD, box(9, 9, 1, 1)):
                with self.assertRaises(AxisError):
                    function(GOOD, other, axis)
