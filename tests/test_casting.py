"""Point 903: rays and moving boxes among bodies that stand still."""

import random

from helpers import StateCase, body, box, fr, number, random_box, random_fraction, random_state, state, vec
from steadybodies.casting import cast, sweep
from steadybodies.errors import BoxError
from steadybodies.rays import ray_time
from steadybodies.sweeps import first_contact


def first_of(meetings):
    """The least of pairs (name, time), by time as a number, then by name."""
    found = [(number(moment), name) for name, moment in meetings if moment is not None]
    if not found:
        return None
    moment, name = min(found)
    return (name, fr(moment))


class CastTest(StateCase):
    BODIES = [body(1, 4, 0), body(3, 2, 0), body(5, 2, 3, mass=0), body(7, -3, 0, speed=(9, 9))]

    def check(self, origin, path, expected, bodies=BODIES):
        if expected is not None:
            expected = (expected[0], fr(expected[1]))
        self.assertEqual(cast(state(bodies), vec(*origin), vec(*path)), expected)

    def test_none(self):
        self.check((0, 0), (1, 1), None, [])
        self.check((0, "1/2"), (0, 0), None)
        self.check((0, "1/2"), ("19/10", 0), None)
        self.check((0, 2), (9, 0), None)
        self.check((0, "1/2"), (0, 9), None)

    def test_one_body(self):
        self.check((0, "7/2"), (4, 0), (5, "1/2"))
        self.check((0, "1/2"), (-3, 0), (7, "2/3"))
        self.check((0, "1/2"), (2, 0), (3, 1))

    def test_several_bodies_at_different_times(self):
        self.check((0, "1/2"), (8, 0), (3, "1/4"))
        self.check((6, "1/2"), (-12, 0), (1, "1/12"))
        self.check((8, "1/2"), (-12, 0), (1, "1/4"))

    def test_several_bodies_at_the_same_time(self):
        for bodies in ([body(2, 2, 0), body(4, 2, 1)], [body(2, 2, 1), body(4, 2, 0)]):
            self.check((0, 1), (4, 0), (2, "1/2"), bodies)
        self.check((-1, -1), (4, 4), (1, "3/4"), [body(1, 2, 2), body(5, 2, 1), body(6, 1, 2)])

    def test_beginning_inside_or_touching(self):
        self.check(("5/2", "1/2"), (9, 0), (3, 0))
        self.check(("5/2", "1/2"), (0, 0), (3, 0))
        self.check((2, "1/2"), (-1, 0), (3, 0))
        self.check((3, 1), (1, 1), (3, 0))
        self.check((1, "1/2"), (5, 0), (1, 0), [body(1, 0, 0), body(2, 1, 0)])

    def test_touching_on_the_way(self):
        self.check((0, 1), (8, 0), (3, "1/4"))
        self.check((1, 2), (2, -2), (3, "1/2"))

    def test_many(self):
        rng = random.Random(81)
        for _ in range(80):
            a_state = random_state(rng, 7)
            origin, path = [vec(random_fraction(rng, 5), random_fraction(rng, 5)) for _ in range(2)]
            expected = first_of([(a_body[0], ray_time(a_body[1:3], origin, path)) for a_body in a_state[0]])
            self.assertEqual(cast(a_state, origin, path), expected)

    def test_errors(self):
        self.check_state_errors(lambda a_state: cast(a_state, vec(0, 0), vec(1, 1)))


class SweepTest(StateCase):
    BODIES = [body(1, 5, 0), body(3, 3, 0), body(5, 3, 3, mass=0), body(7, -3, 0, speed=(9, 9))]
    HOME = box(0, 0, 1, 1)

    def check(self, a_box, move, expected, bodies=BODIES):
        if expected is not None:
            expected = (expected[0], fr(expected[1]))
        self.assertEqual(sweep(state(bodies), a_box, vec(*move)), expected)

    def test_none(self):
        self.check(self.HOME, (9, 9), None, [])
        self.check(self.HOME, (0, 0), None)
        self.check(self.HOME, (1, 0), None)
        self.check(self.HOME, (0, 9), None)

    def test_one_body(self):
        self.check(box(0, 3, 1, 1), (4, 0), (5, "1/2"))
        self.check(self.HOME, (-3, 0), (7, "2/3"))

    def test_several_bodies_at_different_times(self):
        self.check(self.HOME, (8, 0), (3, "1/4"))
        self.check(box(7, 0, 1, 1), (-12, 0), (1, "1/12"))

    def test_several_bodies_at_the_same_time(self):
        for bodies in ([body(2, 3, 0), body(4, 3, 1)], [body(2, 3, 1), body(4, 3, 0)]):
            self.check(box(0, "1/2", 1, 1), (4, 0), (2, "1/2"), bodies)

    def test_beginning_inside(self):
        self.check(box("5/2", 0, 1, 1), (-9, 0), (3, 0))
        self.check(box("5/2", 0, 1, 1), (0, 0), (3, 0))
        self.check(box("5/2", 0, 4, 1), (0, 0), (1, 0))

    def test_beginning_touching(self):
        self.check(box(2, 0, 1, 1), (1, 0), (3, 0))
        self.check(box(2, 0, 1, 1), (-1, 0), None)
        self.check(box(2, 0, 1, 1), (0, 0), None)

    def test_touching_on_the_way_is_not_overlapping(self):
        self.check(box(0, 1, 1, 2), (9, 0), None)
        self.check(box(0, 1, 1, 1), (2, 0), None)

    def test_many(self):
        rng = random.Random(82)
        for _ in range(80):
            a_state = random_state(rng, 7)
            a_box, move = random_box(rng), vec(random_fraction(rng, 5), random_fraction(rng, 5))
            meetings = [(a_body[0], first_contact(a_box, move, a_body[1:3], vec(0, 0))) for a_body in a_state[0]]
            self.assertEqual(sweep(a_state, a_box, move), first_of(meetings))

    def test_box_error(self):
        for width, height in ((0, 1), (1, 0), (-1, 1), (1, "-1/2")):
            for bodies in ([], self.BODIES):
                with self.assertRaises(BoxError):
                    sweep(state(bodies), box(0, 0, width, height), vec(1, 1))

    def test_errors_of_the_state_come_first(self):
        for a_box in (self.HOME, box(0, 0, 0, 1)):
            self.check_state_errors(lambda a_state: sweep(a_state, a_box, vec(1, 1)))
