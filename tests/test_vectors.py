"""Point 103: vectors."""

import random
import unittest

from helpers import fr, number, random_fraction, vec
from steadybodies.vectors import add, dot, scale, subtract


class VectorsTest(unittest.TestCase):
    def test_add(self):
        self.assertEqual(add(vec("1/2", 3), vec("1/3", -5)), vec("5/6", -2))
        self.assertEqual(add(vec(1, "-1/2"), vec(-1, "1/2")), vec(0, 0))

    def test_subtract(self):
        self.assertEqual(subtract(vec("1/2", 3), vec("1/3", -5)), vec("1/6", 8))
        self.assertEqual(subtract(vec(2, 7), vec(2, 7)), vec(0, 0))

    def test_scale(self):
        self.assertEqual(scale(vec("1/2", 3), fr("2/3")), vec("1/3", 2))
        self.assertEqual(scale(vec("1/2", 3), fr(-2)), vec(-1, -6))
        self.assertEqual(scale(vec("1/2", 3), fr(0)), vec(0, 0))

    def test_dot(self):
        self.assertEqual(dot(vec("1/2", 3), vec(4, "1/5")), fr("13/5"))
        self.assertEqual(dot(vec(1, 2), vec(-2, 1)), fr(0))
        self.assertEqual(dot(vec(3, 4), vec(3, 4)), fr(25))

    def test_many(self):
        rng = random.Random(3)
        for _ in range(200):
            ax, ay, bx, by, k = [random_fraction(rng, 30, (1, 2, 3, 7)) for _ in range(5)]
            a, b = vec(ax, ay), vec(bx, by)
            self.assertEqual(add(a, b), vec(ax + bx, ay + by))
            self.assertEqual(subtract(a, b), vec(ax - bx, ay - by))
            self.assertEqual(scale(a, fr(k)), vec(k * ax, k * ay))
            self.assertEqual(number(dot(a, b)), ax * bx + ay * by)
