"""Points 401 to 404: states, their bodies and joints."""

import random
import unittest

from helpers import body, joint, random_state, state
from steadybodies import states
from steadybodies.errors import (
    BodyError, IdError, JointError, OverlapError, SteadyError, TooLarge,
)
from steadybodies.states import body_of, check_state, renamed

LAST = 999999999
FLOOR = body(0, -9, -1, 18, 1, 0, 1)


def in_a_row(count, **more):
    return [body(name, 2 * name, 0, **more) for name in range(count)]


def error_of(a_state):
    """The error of check_state, or None."""
    try:
        return check_state(a_state)
    except SteadyError as error:
        return type(error)


class BodiesTest(unittest.TestCase):
    def check_good(self, *bodies):
        self.assertIsNone(check_state(state(bodies)))

    def check_wrong(self, *bodies):
        self.assertIs(error_of(state(bodies)), BodyError)

    def test_constants(self):
        self.assertEqual((states.BODY_LIMIT, states.JOINT_LIMIT, states.MASS_LIMIT), (24, 24, 1000))

    def test_good_states(self):
        self.check_good()
        self.check_good(FLOOR, body(1, 0, 0, mass=5, speed=(1, "-1/2")))

    def test_names(self):
        self.check_good(body(0, 0, 0))
        self.check_good(body(LAST, 0, 0))
        self.check_wrong(body(LAST + 1, 0, 0))
        self.check_wrong(body(-1, 0, 0))

    def test_names_ascend(self):
        self.check_good(body(4, 0, 0), body(5, 5, 0))
        self.check_wrong(body(5, 0, 0), body(4, 5, 0))
        self.check_wrong(body(4, 0, 0), body(4, 5, 0))
        self.check_wrong(body(1, 0, 0), body(3, 5, 0), body(2, 9, 0))
        self.check_wrong(body(0, 0, 0), body(0, 5, 0))

    def test_sizes(self):
        self.check_good(body(0, 0, 0, "1/1000", "1/1000"))
        for width, height in ((0, 1), (1, 0), (-1, 1), (1, "-1/2"), (0, 0)):
            self.check_wrong(body(0, 0, 0, width, height))

    def test_masses(self):
        for mass in (0, 1, 999, 1000):
            self.check_good(body(0, 0, 0, mass=mass))
        for mass in (-1, 1001):
            self.check_wrong(body(0, 0, 0, mass=mass))

    def test_grips(self):
        for grip in (0, "1/100", 1, "399/100", 4):
            self.check_good(body(0, 0, 0, grip=grip))
        for grip in ("-1/100", -1, "401/100", 5):
            self.check_wrong(body(0, 0, 0, grip=grip))

    def test_speeds(self):
        self.check_good(body(0, 0, 0, mass=1, speed=(-3, "7/2")))
        self.check_good(body(0, 0, 0, mass=0, speed=(0, 0)))
        for speed in ((1, 0), (0, "-1/2"), (1, 1)):
            self.check_wrong(body(0, 0, 0, mass=0, speed=speed))

    def test_a_later_body(self):
        self.check_wrong(body(0, 0, 0), body(1, 5, 0), body(2, 9, 0, mass=1001))


class ManyTest(unittest.TestCase):
    def test_24_and_25_bodies(self):
        self.assertIsNone(check_state(state(in_a_row(24))))
        self.assertIs(error_of(state(in_a_row(25))), TooLarge)

    def test_24_and_25_joints(self):
        joints = [joint(0, 1, 0, 2, 2)] * 25
        self.assertIsNone(check_state(state(in_a_row(2), joints[:24])))
        self.assertIs(error_of(state(in_a_row(2), joints)), TooLarge)

    def test_too_many_comes_before_all_other_errors(self):
        wrong = [body(5, 0, 0, mass=-1)] * 25
        self.assertIs(error_of(state(wrong)), TooLarge)
        self.assertIs(error_of(state([body(1, 0, 0, mass=-1)], [joint(8, 9, 2, 1, 0)] * 25)), TooLarge)


class OverlapTest(unittest.TestCase):
    def test_two_bodies(self):
        self.assertIs(error_of(state([body(0, 0, 0), body(1, "1/2", "1/2")])), OverlapError)
        self.assertIs(error_of(state([body(0, 0, 0), body(1, 0, 0)])), OverlapError)

    def test_two_fixed_bodies(self):
        self.assertIs(error_of(state([body(0, 0, 0, mass=0), body(1, "1/2", 0, mass=0)])), OverlapError)
        self.assertIsNone(check_state(state([body(0, 0, 0, mass=0), body(1, 1, 0, mass=0)])))

    def test_touching_is_not_overlapping(self):
        self.assertIsNone(check_state(state([body(0, 0, 0), body(1, 1, 0), body(2, 0, 1), body(3, 1, 1)])))

    def test_any_two(self):
        self.assertIs(error_of(state(in_a_row(5) + [body(9, "1/2", 0)])), OverlapError)
        self.assertIs(error_of(state(in_a_row(5) + [body(9, "17/2", 0)])), OverlapError)
        self.assertIs(error_of(state([body(0, 9, 9), *in_a_row(4)[1:], body(9, 6, 0)])), OverlapError)


class JointsTest(unittest.TestCase):
    BODIES = [body(1, 0, 0), body(2, 3, "1/2"), body(5, 0, 9, mass=0), body(6, 4, 9, mass=0)]

    def check_good(self, *joints):
        self.assertIsNone(check_state(state(self.BODIES, joints)))

    def check_wrong(self, *joints):
        self.assertIs(error_of(state(self.BODIES, joints)), JointError)

    def test_it_holds(self):
        self.check_good(joint(1, 2, 0, 3, 3), joint(1, 2, 1, "1/2", "1/2"))
        self.check_good(joint(1, 2, 0, 2, 4), joint(1, 2, 1, 0, 1))
        self.check_good(joint(2, 1, 0, -3, -3), joint(2, 1, 0, -3, 0), joint(2, 1, 0, -5, -3))

    def test_it_does_not_hold(self):
        self.check_wrong(joint(1, 2, 0, "31/10", 4))
        self.check_wrong(joint(1, 2, 0, 0, "29/10"))
        self.check_wrong(joint(1, 2, 1, 3, 3))
        self.check_wrong(joint(2, 1, 0, 3, 3))

    def test_fixed_bodies(self):
        self.check_good(joint(5, 6, 0, 4, 4), joint(1, 5, 1, 0, 9))
        self.check_wrong(joint(5, 6, 0, 0, 3))

    def test_names(self):
        for one, other in ((1, 1), (5, 5), (1, 3), (3, 1), (7, 8), (-1, 1), (1, -1)):
            self.check_wrong(joint(one, other, 0, -99, 99))

    def test_axis(self):
        for axis in (-1, 2, 3):
            self.check_wrong(joint(1, 2, axis, -99, 99))

    def test_low_and_high(self):
        self.check_wrong(joint(1, 2, 0, 3, 2))
        self.check_wrong(joint(1, 2, 0, 4, 3))
        self.check_wrong(joint(1, 2, 0, 4, 2))

    def test_a_later_joint(self):
        self.check_wrong(joint(1, 2, 0, 0, 9), joint(1, 2, 0, 0, 9), joint(1, 2, 0, 4, 9))


class OrderTest(unittest.TestCase):
    OVERLAPPING = [body(0, 0, 0), body(1, 0, 0)]

    def test_bodies_come_before_overlaps_and_joints(self):
        bodies = [*self.OVERLAPPING, body(2, 9, 9, mass=1001)]
        self.assertIs(error_of(state(bodies, [joint(8, 8, 2, 1, 0)])), BodyError)

    def test_overlaps_come_before_joints(self):
        self.assertIs(error_of(state(self.OVERLAPPING, [joint(8, 8, 2, 1, 0)])), OverlapError)


class BodyOfTest(unittest.TestCase):
    def test_body_of(self):
        bodies = [body(0, 0, 0), body(4, 3, 0), body(7, 6, 0)]
        for a_body in bodies:
            self.assertEqual(body_of(state(bodies), a_body[0]), a_body)

    def test_unknown_names(self):
        for name in (-1, 1, 8, LAST):
            with self.assertRaises(IdError):
                body_of(state([body(0, 0, 0), body(4, 3, 0)]), name)

    def test_errors_of_the_state_come_first(self):
        with self.assertRaises(OverlapError):
            body_of(state([body(0, 0, 0), body(4, 0, 0)]), 9)
        with self.assertRaises(BodyError):
            body_of(state([body(0, 0, 0), body(4, 9, 0, mass=-1)]), 0)


class RenamedTest(unittest.TestCase):
    def setUp(self):
        self.state = state(
            [body(1, 0, 0, mass=3), body(2, 3, 0, grip=1), body(5, 6, 0, speed=(1, 2))],
            [joint(5, 1, 0, -6, 0), joint(1, 2, 0, 0, 3), joint(2, 5, 1, 0, 0)],
            (1, "-1/2"),
        )

    def test_names_in_order(self):
        expected = state(
            [body(0, 0, 0, mass=3), body(7, 3, 0, grip=1), body(LAST, 6, 0, speed=(1, 2))],
            [joint(LAST, 0, 0, -6, 0), joint(0, 7, 0, 0, 3), joint(7, LAST, 1, 0, 0)],
            (1, "-1/2"),
        )
        self.assertEqual(renamed(self.state, (0, 7, LAST)), expected)

    def test_names_in_another_order(self):
        expected = state(
            [body(1, 6, 0, speed=(1, 2)), body(2, 0, 0, mass=3), body(5, 3, 0, grip=1)],
            [joint(1, 2, 0, -6, 0), joint(2, 5, 0, 0, 3), joint(5, 1, 1, 0, 0)],
            (1, "-1/2"),
        )
        self.assertEqual(renamed(self.state, (2, 5, 1)), expected)

    def test_the_same_names_and_no_bodies(self):
        self.assertEqual(renamed(self.state, (1, 2, 5)), self.state)
        self.assertEqual(renamed(state([], pull=(1, 2)), ()), state([], pull=(1, 2)))

    def test_there_and_back(self):
        rng = random.Random(10)
        for _ in range(30):
            a_state = random_state(rng, 6)
            old = [a_body[0] for a_body in a_state[0]]
            new = rng.sample(range(50), len(old))
            other = renamed(a_state, tuple(new))
            self.assertIsNone(check_state(other))
            back = dict(zip(new, old))
            self.assertEqual(renamed(other, tuple(back[a_body[0]] for a_body in other[0])), a_state)

    def test_wrong_names(self):
        wrong = [
            (), (1, 2), (1, 2, 3, 4), (1, 2, 3, 3), (1, 1, 2, 3), (1, 2, 2), (2, 1, 2), (7, 7, 7),
            (-1, 2, 3), (1, 2, -1), (1, LAST + 1, 3),
        ]
        for names in wrong:
            with self.subTest(names), self.assertRaises(IdError):
                renamed(self.state, names)

    def test_errors_of_the_state_come_first(self):
        with self.assertRaises(JointError):
            renamed(state([body(0, 0, 0)], [joint(0, 1, 0, 0, 0)]), (1, 1))
