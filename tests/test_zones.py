"""Point 901: zones that bodies cross."""

import random

from helpers import StateCase, body, box, fr, push, random_box, random_pushes, random_state, state, vec
from steadybodies.errors import BodyError, BoxError, PushError
from steadybodies.sweeps import overlap_times
from steadybodies.ticks import tick
from steadybodies.zones import crossings

ZONE = box(0, 0, 2, 2)


class CrossingsTest(StateCase):
    def check(self, a_body, *times):
        """The crossing of one body, by its times if there is one."""
        expected = ((a_body[0], fr(times[0]), fr(times[1])),) if times else ()
        self.assertEqual(crossings(state([a_body]), (), ZONE), expected)

    def test_in_the_zone(self):
        self.check(body(4, "1/2", "1/2"), 0, 1)
        self.check(body(4, "1/2", "1/2", mass=0), 0, 1)
        self.check(body(4, "1/2", "1/2", speed=("1/4", 0)), 0, 1)
        self.check(body(4, -1, -1, 9, 9), 0, 1)

    def test_entering(self):
        self.check(body(4, -2, 0, speed=(2, 0)), "1/2", 1)
        self.check(body(4, 0, 3, speed=(0, -3)), "1/3", 1)
        self.check(body(4, -1, 0, speed=("1/9", 0)), 0, 1)

    def test_leaving(self):
        self.check(body(4, 1, 0, speed=(2, 0)), 0, "1/2")
        self.check(body(4, 0, 0, speed=(0, -4)), 0, "1/4")
        self.check(body(4, 1, 0, speed=(1, 0)), 0, 1)

    def test_passing(self):
        self.check(body(4, -2, 1, speed=(10, 0)), "1/10", "2/5")
        self.check(body(4, -2, -2, speed=(8, 8)), "1/8", "1/2")

    def test_only_touching(self):
        self.check(body(4, -1, 0))
        self.check(body(4, -2, 0, speed=(1, 0)))
        self.check(body(4, -1, 0, speed=(-1, 0)))
        self.check(body(4, -2, 2, speed=(9, 0)))
        self.check(body(4, -2, 1, speed=(2, 2)))
        self.check(body(4, 2, 2))

    def test_far_away(self):
        self.check(body(4, 9, 9, speed=(1, 1)))
        self.check(body(4, -9, 0, speed=(3, 0)))

    def test_no_bodies(self):
        self.assertEqual(crossings(state([]), (), ZONE), ())

    def test_speeds_are_those_of_the_tick(self):
        # The free speed would take it into the zone, but a wall is in the way.
        bodies = [body(1, -4, 0, mass=1), body(2, -2, 0, mass=0)]
        self.assertEqual(crossings(state(bodies), (push(1, 9),), ZONE), ())
        self.assertEqual(crossings(state(bodies[:1]), (push(1, 9),), ZONE), ((1, fr("1/3"), fr("2/3")),))
        self.assertEqual(crossings(state(bodies[:1], pull=(6, 0)), (), ZONE), ((1, fr("1/2"), fr(1)),))

    def test_order(self):
        bodies = [
            body(1, 3, 1, speed=(-2, 0)), body(3, 0, 0, mass=0), body(5, 9, 9), body(7, 1, 0),
            body(9, 0, -2, speed=(0, 5)),
        ]
        found = crossings(state(bodies), (), ZONE)
        self.assertEqual([name for name, _, _ in found], [1, 3, 7])
        self.assertEqual(found[0], (1, fr("1/2"), fr(1)))

    def test_many(self):
        rng = random.Random(71)
        for _ in range(40):
            a_state = random_state(rng, 6)
            pushes = random_pushes(rng, a_state)
            zone = random_box(rng)
            expected = []
            for before, after in zip(a_state[0], tick(a_state, pushes)[0][0]):
                times = overlap_times(before[1:3], after[5], zone, vec(0, 0))
                if times is not None:
                    expected.append((before[0], *times))
            self.assertEqual(crossings(a_state, pushes, zone), tuple(expected))

    def test_wrong_zones(self):
        for width, height in ((0, 1), (1, 0), (-1, 1), (1, "-1/2")):
            for a_state in (state([]), state([body(4, 0, 0)])):
                with self.assertRaises(BoxError):
                    crossings(a_state, (), box(0, 0, width, height))

    def test_errors(self):
        self.check_push_errors(lambda a_state, pushes: crossings(a_state, pushes, ZONE))
        self.check_push_errors(lambda a_state, pushes: crossings(a_state, pushes, box(0, 0, 0, 1)))
        wrong_body = state([body(4, 0, 0, mass=-1)])
        with self.assertRaises(BodyError):
            crossings(wrong_body, (push(9),), box(0, 0, 0, 1))
        with self.assertRaises(PushError):
            crossings(state([body(4, 0, 0)]), (push(9),), box(0, 0, 0, 1))
