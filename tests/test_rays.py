"""Point 204: rays."""

import random
import unittest
from fractions import Fraction

from helpers import box, fr, low_high, number, random_box, random_fraction, vec
from steadybodies.errors import BoxError
from steadybodies.rays import ray_stretch, ray_time

BOX = box(1, 1, 2, 1)


def inside_at(a_box, origin, path, time):
    for axis in (0, 1):
        low, high = low_high(a_box, axis)
        if not low <= number(origin[axis]) + time * number(path[axis]) <= high:
            return False
    return True


def plain_stretch(a_box, origin, path):
    """The first and the last time, by a look at all times at which the point may enter or leave."""
    times = {Fraction(0), Fraction(1)}
    for axis in (0, 1):
        for end in low_high(a_box, axis):
            if path[axis] != (0, 1):
                times.add((end - number(origin[axis])) / number(path[axis]))
    times = [time for time in sorted(times) if 0 <= time <= 1 and inside_at(a_box, origin, path, time)]
    if not times:
        return None
    return (fr(times[0]), fr(times[-1]))


class RaysTest(unittest.TestCase):
    def check(self, origin, path, expected):
        pair = expected and (fr(expected[0]), fr(expected[1]))
        self.assertEqual(ray_stretch(BOX, vec(*origin), vec(*path)), pair)
        self.assertEqual(ray_time(BOX, vec(*origin), vec(*path)), pair and pair[0])

    def test_hit(self):
        self.check((0, "3/2"), (4, 0), ("1/4", "3/4"))
        self.check((4, "3/2"), (-4, 0), ("1/4", "3/4"))
        self.check((2, 0), (0, 3), ("1/3", "2/3"))
        self.check((2, 3), (0, -3), ("1/3", "2/3"))
        self.check((0, 0), (3, 2), ("1/2", 1))
        self.check((0, 1), (6, 1), ("1/6", "1/2"))

    def test_miss(self):
        self.check((0, 0), (4, 0), None)
        self.check((0, "3/2"), ("1/2", 0), None)
        self.check((0, "3/2"), (-4, 0), None)
        self.check((0, 0), (1, 4), None)
        self.check((4, 0), (0, 4), None)
        self.check((2, 3), (5, 0), None)

    def test_begin_inside(self):
        self.check((2, "3/2"), (4, 0), (0, "1/4"))
        self.check((2, "3/2"), (0, -1), (0, "1/2"))
        self.check((2, "3/2"), ("1/2", "1/4"), (0, 1))

    def test_begin_on_the_border(self):
        self.check((1, "3/2"), (-1, 0), (0, 0))
        self.check((1, "3/2"), (4, 0), (0, "1/2"))
        self.check((2, 2), (0, 1), (0, 0))
        self.check((3, 2), (1, 1), (0, 0))

    def test_end_inside_or_on_the_border(self):
        self.check((0, "3/2"), (2, 0), ("1/2", 1))
        self.check((0, "3/2"), (1, 0), (1, 1))
        self.check((2, 0), (0, 1), (1, 1))
        self.check((0, 0), (1, 1), (1, 1))

    def test_run_along_a_border(self):
        self.check((0, 1), (4, 0), ("1/4", "3/4"))
        self.check((0, 2), (4, 0), ("1/4", "3/4"))
        self.check((1, 0), (0, 4), ("1/4", "1/2"))
        self.check((3, 4), (0, -4), ("1/2", "3/4"))

    def test_touch_a_corner(self):
        self.check((0, 2), (2, -2), ("1/2", "1/2"))
        self.check((0, 1), (2, 2), ("1/2", "1/2"))
        self.check((4, 1), (-2, 2), ("1/2", "1/2"))
        self.check((2, 0), (2, 2), ("1/2", "1/2"))

    def test_stand_still(self):
        self.check((2, "3/2"), (0, 0), (0, 1))
        self.check((1, 1), (0, 0), (0, 1))
        self.check((3, 2), (0, 0), (0, 1))
        self.check((1, "3/2"), (0, 0), (0, 1))
        self.check((2, 2), (0, 0), (0, 1))
        self.check((0, "3/2"), (0, 0), None)
        self.check((2, 0), (0, 0), None)
        self.check((4, "3/2"), (0, 0), None)
        self.check((2, 3), (0, 0), None)

    def test_many(self):
        rng = random.Random(8)
        found = 0
        for _ in range(800):
            a_box = random_box(rng)
            origin = vec(random_fraction(rng, 5), random_fraction(rng, 5))
            path = vec(random_fraction(rng, 9), random_fraction(rng, 9) * rng.choice([0, 1, 1]))
            expected = plain_stretch(a_box, origin, path)
            found += expected is not None
            self.assertEqual(ray_stretch(a_box, origin, path), expected)
            self.assertEqual(ray_time(a_box, origin, path), expected and expected[0])
        self.assertTrue(50 < found < 700)

    def test_box_error(self):
        for flat in (box(0, 0, 0, 1), box(0, 0, 1, 0), box(0, 0, -1, 1), box(0, 0, 1, "-1/2")):
            for function in (ray_time, ray_stretch):
                with self.assertRaises(BoxError):
                    function(flat, vec(9, 9), vec(1, 0))
