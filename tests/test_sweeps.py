"""Point 203: boxes that move evenly."""

import random
import unittest
from fractions import Fraction

from helpers import box, fr, low_high, number, random_box, random_fraction, vec
from steadybodies.errors import BoxError
from steadybodies.sweeps import first_contact, overlap_times

UNIT = box(0, 0, 1, 1)
STILL = vec(0, 0)


def overlap_at(a, move_a, b, move_b, time):
    """Whether the boxes overlap at a time, by their places at this time."""
    for axis in (0, 1):
        low_a, high_a = [end + time * number(move_a[axis]) for end in low_high(a, axis)]
        low_b, high_b = [end + time * number(move_b[axis]) for end in low_high(b, axis)]
        if low_a >= high_b or low_b >= high_a:
            return False
    return True


def plain_times(a, move_a, b, move_b):
    """The ends of the overlapping, by a look between all times at which two ends are at one place."""
    times = {Fraction(0), Fraction(1)}
    for axis in (0, 1):
        way = number(move_b[axis]) - number(move_a[axis])
        for end_a in low_high(a, axis):
            for end_b in low_high(b, axis):
                if way != 0 and 0 < (end_a - end_b) / way < 1:
                    times.add((end_a - end_b) / way)
    times = sorted(times)
    spans = [pair for pair in zip(times, times[1:]) if overlap_at(a, move_a, b, move_b, sum(pair) / 2)]
    if not spans:
        return None
    return (fr(spans[0][0]), fr(spans[-1][1]))


class OverlapTimesTest(unittest.TestCase):
    def check(self, b, move, expected, a=UNIT):
        """b moves by the vector; the outcome is the same if a moves the other way, or if both are exchanged."""
        back = vec(-number(move[0]), -number(move[1]))
        pair = expected and (fr(expected[0]), fr(expected[1]))
        calls = [(a, STILL, b, move), (b, move, a, STILL), (a, back, b, STILL), (b, STILL, a, back)]
        third = vec("1/3", "-2/7")
        calls.append((a, third, b, vec(number(move[0]) + Fraction(1, 3), number(move[1]) - Fraction(2, 7))))
        for call in calls:
            self.assertEqual(overlap_times(*call), pair)
            self.assertEqual(first_contact(*call), pair and pair[0])

    def test_meet(self):
        self.check(box(3, 0, 1, 1), vec(-4, 0), ("1/2", 1))
        self.check(box(3, "1/2", 1, 1), vec(-3, 0), ("2/3", 1))
        self.check(box(0, -3, 1, 1), vec(0, 4), ("1/2", 1))
        self.check(box(3, 3, 1, 1), vec(-4, -4), ("1/2", 1))
        self.check(box(3, 2, 1, 1), vec(-6, -6), ("1/3", "1/2"))

    def test_pass_through(self):
        self.check(box(3, 0, 1, 1), vec(-8, 0), ("1/4", "1/2"))
        self.check(box(-3, 0, 1, 1), vec(6, 0), ("1/3", "2/3"))
        self.check(box(0, 3, 1, 1), vec(0, -8), ("1/4", "1/2"))

    def test_pass_by(self):
        self.check(box(3, 0, 1, 1), vec(-8, 20), None)
        self.check(box(2, 0, 1, 1), vec(-1, 1), None)
        self.check(box(3, 2, 1, 1), vec(-4, 0), None)
        self.check(box(2, -1, 1, 1), vec(-2, 4), None)
        self.check(box(3, 0, 1, 1), vec(4, 0), None)

    def test_slide_along(self):
        self.check(box(-3, 1, 1, 1), vec(6, 0), None)
        self.check(box(-3, -1, 1, 1), vec(6, 0), None)
        self.check(box(1, -3, 1, 1), vec(0, 6), None)
        self.check(box(-1, -3, 1, 1), vec(0, 6), None)

    def test_only_touch(self):
        self.check(box(2, 0, 1, 1), vec(-1, 0), None)
        self.check(box(0, -2, 1, 1), vec(0, 1), None)
        self.check(box(2, 2, 1, 1), vec(-1, -1), None)
        self.check(box(1, 0, 1, 1), vec(3, 0), None)
        self.check(box(2, -1, 1, 1), vec(-2, 2), ("1/2", 1))
        self.check(box(2, 0, 1, 1), vec(-2, 2), None)

    def test_stand_still(self):
        self.check(box("1/2", "1/2", 1, 1), STILL, (0, 1))
        self.check(UNIT, STILL, (0, 1))
        self.check(box(1, 0, 1, 1), STILL, None)
        self.check(box(0, -1, 1, 1), STILL, None)
        self.check(box(1, 1, 1, 1), STILL, None)
        self.check(box(5, 0, 1, 1), STILL, None)

    def test_overlap_at_the_beginning_only(self):
        self.check(box("1/2", 0, 1, 1), vec(2, 0), (0, "1/4"))
        self.check(box("1/2", "1/2", 1, 1), vec(-6, 0), (0, "1/4"))
        self.check(box(0, "1/2", 1, 1), vec(0, "1/2"), (0, 1))

    def test_overlap_at_the_end_only(self):
        self.check(box(3, 0, 1, 1), vec("-5/2", 0), ("4/5", 1))
        self.check(box(1, 0, 1, 1), vec(-1, 0), (0, 1))
        self.check(box(0, 2, 1, 1), vec(0, "-3/2"), ("2/3", 1))

    def test_one_axis_begins_where_the_other_one_ends(self):
        self.check(box(1, -2, 1, 1), vec(-4, 2), None)
        self.check(box(1, -2, 1, 1), vec(-3, 2), ("1/2", "2/3"))

    def test_many(self):
        rng = random.Random(7)
        found = 0
        for _ in range(600):
            a, b = random_box(rng), random_box(rng)
            move_a, move_b = [vec(random_fraction(rng, 6), random_fraction(rng, 6)) for _ in range(2)]
            if rng.random() < 0.2:
                move_b = (move_a[0], move_b[1])
            expected = plain_times(a, move_a, b, move_b)
            found += expected is not None
            self.assertEqual(overlap_times(a, move_a, b, move_b), expected)
            self.assertEqual(first_contact(a, move_a, b, move_b), expected and expected[0])
        self.assertTrue(100 < found < 500)

    def test_box_error(self):
        for flat in (box(0, 0, 0, 1), box(9, 9, 1, 0), box(0, 0, -1, 1), box(9, 9, 1, "-1/2")):
            for pair in ((flat, UNIT), (UNIT, flat)):
                for function in (overlap_times, first_contact):
                    with self.assertRaises(BoxError):
                        function(pair[0], STILL, pair[1], vec(1, 0))
