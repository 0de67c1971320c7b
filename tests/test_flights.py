"""Points 2201 to 2203: free flights."""

import random
import unittest
from fractions import Fraction

from helpers import body, fr, number, random_fraction, state, vec
from steadybodies.errors import TickError
from steadybodies.flights import crossing_tick, flight, highest_tick
from steadybodies.ticks import tick

MILLION = 1000000


class FlightTest(unittest.TestCase):
    def check(self, place, speed, pull, n, expected_place, expected_speed):
        found = flight(vec(*place), vec(*speed), vec(*pull), n)
        self.assertEqual(found, (vec(*expected_place), vec(*expected_speed)))

    def test_0_ticks(self):
        self.check((1, "-1/2"), (3, "2/3"), (-1, 7), 0, (1, "-1/2"), (3, "2/3"))

    def test_1_tick(self):
        self.check((1, "-1/2"), (3, "2/3"), (-1, "1/3"), 1, (3, "1/2"), (2, 1))

    def test_several_ticks(self):
        self.check((0, 0), (1, 2), (0, -1), 2, (2, 1), (1, 0))
        self.check((0, 0), (1, 2), (0, -1), 4, (4, -2), (1, -2))
        self.check((5, 0), (0, 0), ("1/3", 0), 3, (7, 0), (1, 0))

    def test_a_million_ticks(self):
        self.check((1, 0), (2, 0), (0, "-1/2"), MILLION, (2000001, "-250000250000"), (2, -500000))

    def test_it_agrees_with_ticks_of_a_body_alone(self):
        rng = random.Random(221)
        for _ in range(10):
            place, speed, pull = [(random_fraction(rng, 5), random_fraction(rng, 5)) for _ in range(3)]
            a_state = state([body(4, *place, 2, 1, 7, 1, speed)], [], pull)
            for n in range(6):
                self.assertEqual(flight(vec(*place), vec(*speed), vec(*pull), n), (a_state[0][0][1], a_state[0][0][5]))
                a_state, _ = tick(a_state, ())

    def test_errors(self):
        for n in (-1, -5, MILLION + 1, 2 * MILLION):
            with self.assertRaises(TickError):
                flight(vec(0, 0), vec(1, 1), vec(0, 0), n)


def place_after(place, speed, pull, n):
    return place + n * speed + Fraction(n * (n + 1), 2) * pull


class CrossingTickTest(unittest.TestCase):
    def check(self, expected, place, speed, pull, line, most=100):
        for sign in (1, -1):
            given = [fr(sign * Fraction(worth)) for worth in (place, speed, pull, line)]
            self.assertEqual(crossing_tick(*given, most), expected)

    def test_a_line_below_and_above(self):
        self.check(2, 3, -2, 0, 0)
        self.check(4, 0, "1/2", 0, 2)
        self.check(5, 0, "1/2", 0, "9/4")
        self.check(1, "1/9", -7, 0, 0)

    def test_a_line_on_the_place(self):
        for speed in (0, 1, -1):
            for pull in (0, 1, -1):
                for most in (1, 2, MILLION):
                    self.check(1, "7/3", speed, pull, "7/3", most)

    def test_reached_exactly(self):
        self.check(3, 6, -2, 0, 0)
        self.check(3, 6, 0, -1, 0)
        self.check(1, 1, 0, -1, 0)

    def test_passed(self):
        self.check(4, 7, -2, 0, 0)
        self.check(4, 7, 0, -1, 0)
        self.check(4, "61/10", 0, -1, 0)

    def test_never_reached(self):
        for speed, pull in ((0, 0), (1, 0), (1, 1), (0, 1), (-1, 1), ("-3/2", "1/2")):
            self.check(None, 3, speed, pull, 0, MILLION)

    def test_the_turn_is_on_the_line_or_just_before_it(self):
        # With the speed -4 and the pull 1 the flight falls by 3, 2, 1, then 0.
        self.check(3, 6, -4, 1, 0)
        self.check(2, 5, -4, 1, 0)
        self.check(None, "61/10", -4, 1, 0)
        self.check(3, "51/10", -4, 1, 0)
        # With the speed -7/2 it falls by 5/2, 3/2, 1/2, then it rises.
        self.check(3, "9/2", "-7/2", 1, 0)
        self.check(None, "91/20", "-7/2", 1, 0)

    def test_reached_behind_a_turn_of_the_direction(self):
        # It rises by 2, 1, 0, and falls by 1, 2, 3.
        self.check(6, 1, 3, -1, 0)
        self.check(6, "1/2", 3, -1, 0)
        self.check(7, "7/2", 3, -1, 0)
        self.check(2000, "1/2", 1000, -1, 0, MILLION)

    def test_reached_at_most_and_one_later(self):
        for most, expected in ((3, None), (4, 4), (5, 4)):
            self.check(expected, 7, -2, 0, 0, most)
        for most, expected in ((1, None), (2, 2), (3, 2)):
            self.check(expected, 5, -4, 1, 0, most)
        for most, expected in ((5, None), (6, 6), (7, 6)):
            self.check(expected, 1, 3, -1, 0, most)
        self.check(MILLION, MILLION, -1, 0, 0, MILLION)
        self.check(None, MILLION + 1, -1, 0, 0, MILLION)
        self.check(None, MILLION, -1, 0, 0, MILLION - 1)
        self.check(1, 1, -1, 0, 0, 1)
        self.check(None, 2, -1, 0, 0, 1)

    def test_large_and_small_numbers(self):
        self.check(MILLION, Fraction(MILLION * (MILLION + 1), 2), 0, -1, 0, MILLION)
        self.check(None, Fraction(MILLION * (MILLION + 1), 2) + Fraction(1, 10 ** 30), 0, -1, 0, MILLION)
        self.check(1000, 1, Fraction(-1, 1000), 0, 0, MILLION)

    def test_many(self):
        rng = random.Random(222)
        outcomes = {}
        for _ in range(1500):
            place, line = random_fraction(rng, 12), random_fraction(rng, 12)
            speed, pull = random_fraction(rng, 5), random_fraction(rng, 2)
            most = rng.randint(1, 30)
            expected = self.plain_crossing(place, speed, pull, line, most)
            self.check(expected, place, speed, pull, line, most)
            outcomes[expected] = outcomes.get(expected, 0) + 1
        self.assertTrue(len(outcomes) > 10 and outcomes[None] > 50)

    def plain_crossing(self, place, speed, pull, line, most):
        """Tick by tick."""
        for n in range(1, most + 1):
            if (place_after(place, speed, pull, n) - line) * (place - line) <= 0:
                return n
        return None

    def test_errors(self):
        for most in (0, -1, MILLION + 1, 2 * MILLION):
            for given in ((fr(3), fr(-1), fr(0), fr(0)), (fr(0), fr(0), fr(0), fr(0))):
                with self.assertRaises(TickError):
                    crossing_tick(*given, most)


class HighestTickTest(unittest.TestCase):
    def check(self, expected, speed, pull):
        self.assertEqual(highest_tick(fr(speed), fr(pull)), expected)

    def test_without_a_greatest_place(self):
        for speed in (-7, "-1/2", 0, "1/2", 7):
            self.check(None, speed, 1)
            self.check(None, speed, "1/9")
        self.check(None, 1, 0)
        self.check(None, "1/9", 0)

    def test_the_first_place_is_the_greatest(self):
        self.check(0, 0, 0)
        self.check(0, -1, 0)
        for speed in (-5, "-1/3", 0, "1/2"):
            self.check(0, speed, -1)

    def test_a_turn(self):
        self.check(2, "5/2", -1)
        self.check(6, "10/3", "-1/2")
        self.check(1, "3/2", -1)

    def test_two_greatest_places_in_a_row(self):
        self.check(0, 1, -1)
        self.check(1, 2, -1)
        self.check(2, 3, -1)
        self.check(5, 3, "-1/2")
        self.check(999999, 1000000, -1)

    def test_more_than_a_million_ticks(self):
        self.check(10 ** 30 - 1, 10 ** 30, -1)
        self.check(10 ** 12, 10 ** 6 + Fraction(1, 10 ** 7), Fraction(-1, 10 ** 6))

    def test_many(self):
        rng = random.Random(223)
        for _ in range(400):
            speed, pull = random_fraction(rng, 9), -abs(random_fraction(rng, 3))
            if pull == 0:
                pull = Fraction(-1, 7)
            heights = [place_after(0, speed, pull, n) for n in range(80)]
            highest = heights.index(max(heights))
            self.check(highest, speed, pull)
            place, _ = flight(vec(0, 0), vec(speed, 0), vec(pull, 0), highest)
            self.assertEqual(number(place[0]), max(heights))
