"""Points 501 to 504: pushes, free speeds, axes and rows."""

import random
import unittest

from helpers import body, fr, joint, plain_free, plain_rows, push, random_pushes, random_state, state, vec
from steadybodies.errors import BodyError, IdError, JointError, OverlapError, PushError
from steadybodies.rows import axis_of, check_pushes, free_speeds, rows_of

FIXED = body(0, -9, -1, 18, 1, 0, 4)


def row(name, parts, bound):
    return (name, tuple((a_body, axis, fr(factor)) for a_body, axis, factor in parts), fr(bound))


class PushesTest(unittest.TestCase):
    STATE = state([FIXED, body(2, 0, 0), body(5, 3, 0, mass=4), body(7, 6, 0)])

    def test_good_pushes(self):
        for pushes in ((), (push(2),), (push(2, 1, 1), push(5)), (push(2), push(5), push(7, -1))):
            self.assertIsNone(check_pushes(self.STATE, pushes))

    def test_wrong_pushes(self):
        wrong = [
            (push(0),), (push(1),), (push(-1),), (push(8),), (push(2), push(3)), (push(0, 1), push(2)),
            (push(2), push(2)), (push(5), push(2)), (push(2), push(7), push(5)), (push(7), push(7)),
            (push(2), push(5), push(5)), (push(2), push(5), push(9)),
        ]
        for pushes in wrong:
            for function in (check_pushes, free_speeds, rows_of):
                with self.subTest(pushes), self.assertRaises(PushError):
                    function(self.STATE, pushes)
            with self.assertRaises(PushError):
                axis_of(self.STATE, pushes, 2, 5)

    def test_errors_of_the_state_come_first(self):
        wrong = [
            (state([body(0, 0, 0, mass=-1)]), BodyError),
            (state([body(0, 0, 0), body(1, 0, 0)]), OverlapError),
            (state([body(0, 0, 0)], [joint(0, 0, 0, 0, 0)]), JointError),
        ]
        for a_state, error in wrong:
            for pushes in ((), (push(9),)):
                for function in (check_pushes, free_speeds, rows_of):
                    with self.assertRaises(error):
                        function(a_state, pushes)
                with self.assertRaises(error):
                    axis_of(a_state, pushes, 0, 0)


class FreeSpeedsTest(unittest.TestCase):
    def test_speed_pull_and_push(self):
        a_state = state(
            [body(1, 0, 0, mass=3, speed=(1, "1/2")), body(4, 3, 0, mass=1), body(9, 6, 0, mass=0)], pull=(2, "-1/10"),
        )
        self.assertEqual(free_speeds(a_state, ()), (vec(3, "2/5"), vec(2, "-1/10"), vec(0, 0)))
        pushes = (push(1, 1, -6), push(4, "1/2", 0))
        self.assertEqual(free_speeds(a_state, pushes), (vec("10/3", "-8/5"), vec("5/2", "-1/10"), vec(0, 0)))

    def test_no_bodies(self):
        self.assertEqual(free_speeds(state([], pull=(1, 1)), ()), ())

    def test_many(self):
        rng = random.Random(12)
        for _ in range(60):
            a_state = random_state(rng, 6)
            pushes = random_pushes(rng, a_state)
            self.assertEqual(free_speeds(a_state, pushes), tuple(plain_free(a_state, pushes).values()))


class AxisTest(unittest.TestCase):
    def check(self, bodies, axis, pushes=(), pull=(0, 0)):
        for one, other in ((1, 2), (2, 1)):
            self.assertEqual(axis_of(state(bodies, pull=pull), pushes, one, other), axis)

    def test_one_axis_with_a_gap_of_at_least_zero(self):
        self.check([body(1, 0, 0), body(2, 3, 0)], 0)
        self.check([body(1, 0, 0), body(2, "1/2", 3)], 1)
        self.check([body(1, 0, 0), body(2, 1, 0)], 0)
        self.check([body(1, 0, 0), body(2, "-1/2", -1)], 1)

    def test_the_other_axis_does_not_count_however_great_its_end_gap(self):
        self.check([body(1, 0, 0), body(2, 3, 0, speed=(-9, 9))], 0)
        self.check([body(1, 0, 0), body(2, 0, 3, speed=(9, -9))], 1)

    def test_two_axes(self):
        self.check([body(1, 0, 0), body(2, 3, 2)], 0)
        self.check([body(1, 0, 0), body(2, 2, 3)], 1)
        self.check([body(1, 0, 0), body(2, -3, -2)], 0)
        self.check([body(1, 0, 0), body(2, -2, -3)], 1)
        self.check([body(1, 0, 0), body(2, 3, -2, speed=(-2, 0))], 1)
        self.check([body(1, 0, 0), body(2, -3, 2, speed=(2, 0))], 1)
        self.check([body(1, 0, 0, speed=(2, 0)), body(2, 3, 2)], 1)
        self.check([body(1, 0, 0, speed=(0, 2)), body(2, 2, 3)], 0)

    def test_equal_end_gaps(self):
        self.check([body(1, 0, 0), body(2, 3, 3)], 0)
        self.check([body(1, 0, 0), body(2, -3, 3)], 0)
        self.check([body(1, 0, 0), body(2, 1, 1)], 0)
        self.check([body(1, 0, 0), body(2, 3, 2, speed=(-1, 0))], 0)
        self.check([body(1, 0, 0), body(2, 2, 3, speed=(0, -1))], 0)

    def test_a_corner(self):
        self.check([body(1, 0, 0), body(2, 1, 1, speed=("-1/2", 0))], 1)
        self.check([body(1, 0, 0), body(2, 1, 1, speed=(0, "-1/2"))], 0)

    def test_pull_and_push_count(self):
        self.check([body(1, 0, 0), body(2, 3, 2, mass=2)], 0, (push(2, -2),))
        self.check([body(1, 0, 0), body(2, 3, 2, mass=2)], 1, (push(2, -3),))
        self.check([body(1, 0, 0, mass=0), body(2, 3, 2)], 1, pull=(-2, 0))
        self.check([body(1, 0, 0), body(2, 3, 2)], 0, pull=(-2, 0))

    def test_two_fixed_bodies(self):
        self.check([body(1, 0, 0, mass=0), body(2, 2, 3, mass=0)], 1)

    def test_no_such_bodies(self):
        a_state = state([body(1, 0, 0), body(2, 3, 0)])
        for one, other in ((1, 1), (2, 2), (1, 3), (3, 1), (-1, 2), (3, 3), (0, 9)):
            with self.assertRaises(IdError):
                axis_of(a_state, (), one, other)


class RowsOfTwoTest(unittest.TestCase):
    def check(self, bodies, *rows):
        self.assertEqual(rows_of(state(bodies), ()), rows)

    def test_apart(self):
        self.check(
            [body(1, 0, 0, grip=1), body(2, "7/2", 0, grip=1)],
            row(("apart", 1, 2, 0), [(1, 0, -1), (2, 0, 1)], "-5/2"),
        )
        self.check(
            [body(1, "7/2", 0, grip=1), body(2, 0, 0, grip=1)],
            row(("apart", 1, 2, 0), [(1, 0, 1), (2, 0, -1)], "-5/2"),
        )
        self.check([body(3, 0, 0), body(8, 0, 3)], row(("apart", 3, 8, 0), [(3, 1, -1), (8, 1, 1)], -2))

    def test_touching_without_grip(self):
        for grips in ((0, 0), (0, 1), (2, 0)):
            self.check(
                [body(1, 0, 0, grip=grips[0]), body(2, 1, 0, grip=grips[1])],
                row(("apart", 1, 2, 0), [(1, 0, -1), (2, 0, 1)], 0),
            )

    def test_touching_with_grip(self):
        self.check(
            [body(1, 0, 0, grip=2), body(2, 1, 0, grip="1/3")],
            row(("apart", 1, 2, 0), [(1, 0, -1), (1, 1, "-1/3"), (2, 0, 1), (2, 1, "1/3")], 0),
            row(("apart", 1, 2, 1), [(1, 0, -1), (1, 1, "1/3"), (2, 0, 1), (2, 1, "-1/3")], 0),
        )

    def test_touching_with_grip_on_axis_1_with_the_first_one_in_front(self):
        self.check(
            [body(1, 0, 1, grip=1), body(2, "1/2", 0, grip=4)],
            row(("apart", 1, 2, 0), [(1, 0, 1), (1, 1, 1), (2, 0, -1), (2, 1, -1)], 0),
            row(("apart", 1, 2, 1), [(1, 0, -1), (1, 1, 1), (2, 0, 1), (2, 1, -1)], 0),
        )

    def test_a_corner_with_grip(self):
        self.check(
            [body(1, 0, 0, grip=1), body(2, 1, 1, grip=1)],
            row(("apart", 1, 2, 0), [(1, 0, -1), (1, 1, -1), (2, 0, 1), (2, 1, 1)], 0),
            row(("apart", 1, 2, 1), [(1, 0, -1), (1, 1, 1), (2, 0, 1), (2, 1, -1)], 0),
        )

    def test_a_gap_of_zero_but_apart_on_the_other_axis(self):
        self.check(
            [body(1, 0, 0, grip=1), body(2, 1, 4, grip=1, speed=(0, -5))],
            row(("apart", 1, 2, 0), [(1, 0, -1), (2, 0, 1)], 0),
        )
        self.check(
            [body(1, 0, 0, grip=1), body(2, 1, 4, grip=1)],
            row(("apart", 1, 2, 0), [(1, 1, -1), (2, 1, 1)], -3),
        )

    def test_fixed_bodies(self):
        self.check(
            [FIXED, body(4, 0, 0, grip="1/2")],
            row(("apart", 0, 4, 0), [(4, 0, "1/2"), (4, 1, 1)], 0),
            row(("apart", 0, 4, 1), [(4, 0, "-1/2"), (4, 1, 1)], 0),
        )
        self.check([body(0, 0, -2), body(4, 0, 0, mass=0)], row(("apart", 0, 4, 0), [(0, 1, -1)], -1))
        self.check([FIXED, body(4, 0, 5, mass=0)])
        self.check([FIXED, body(4, 0, 0, mass=0, grip=1)])


class RowsOfManyTest(unittest.TestCase):
    def test_no_rows(self):
        self.assertEqual(rows_of(state([]), ()), ())
        self.assertEqual(rows_of(state([body(1, 0, 0)]), ()), ())

    def test_pairs_ascend_and_joints_follow(self):
        bodies = [FIXED, body(3, 0, 0), body(5, 2, 0), body(8, 4, 0), body(9, 40, 0, mass=0)]
        rows = rows_of(state(bodies, [joint(8, 3, 0, -9, 9), joint(0, 9, 0, 0, 99), joint(5, 9, 1, 0, 0)]), ())
        names = [name for name, _, _ in rows]
        pairs = [(0, 3), (0, 5), (0, 8), (3, 5), (3, 8), (3, 9), (5, 8), (5, 9), (8, 9)]
        joints = [("joint", 0, 0, 0), ("joint", 0, 0, 1), ("joint", 2, 0, 0), ("joint", 2, 0, 1)]
        self.assertEqual(names, [("apart", *pair, 0) for pair in pairs] + joints)

    def joint_rows(self, one, other, axis, low, high, masses=(1, 1)):
        bodies = [body(1, 0, 0, mass=masses[0]), body(2, 3, "1/2", mass=masses[1])]
        rows = rows_of(state(bodies, [joint(one, other, axis, low, high)]), ())
        return rows[1:]

    def test_a_joint(self):
        self.assertEqual(self.joint_rows(1, 2, 0, 1, "7/2"), (
            row(("joint", 0, 0, 0), [(1, 0, -1), (2, 0, 1)], -2),
            row(("joint", 0, 0, 1), [(1, 0, 1), (2, 0, -1)], "-1/2"),
        ))

    def test_a_joint_with_the_names_in_the_other_order(self):
        self.assertEqual(self.joint_rows(2, 1, 0, "-7/2", -1), (
            row(("joint", 0, 0, 0), [(1, 0, 1), (2, 0, -1)], "-1/2"),
            row(("joint", 0, 0, 1), [(1, 0, -1), (2, 0, 1)], -2),
        ))

    def test_a_joint_on_axis_1(self):
        self.assertEqual(self.joint_rows(1, 2, 1, "1/2", 5), (
            row(("joint", 0, 0, 0), [(1, 1, -1), (2, 1, 1)], 0),
            row(("joint", 0, 0, 1), [(1, 1, 1), (2, 1, -1)], "-9/2"),
        ))

    def test_a_joint_with_a_fixed_body(self):
        self.assertEqual(self.joint_rows(1, 2, 0, 3, 4, (0, 1)), (
            row(("joint", 0, 0, 0), [(2, 0, 1)], 0),
            row(("joint", 0, 0, 1), [(2, 0, -1)], -1),
        ))
        self.assertEqual(self.joint_rows(1, 2, 0, 3, 4, (1, 0)), (
            row(("joint", 0, 0, 0), [(1, 0, -1)], 0),
            row(("joint", 0, 0, 1), [(1, 0, 1)], -1),
        ))

    def test_a_joint_of_two_fixed_bodies_has_no_rows_but_its_number(self):
        bodies = [body(1, 0, 0, mass=0), body(2, 3, 0, mass=0), body(4, 6, 0)]
        rows = rows_of(state(bodies, [joint(1, 2, 0, 3, 3), joint(2, 4, 0, 3, 3)]), ())
        self.assertEqual([name for name, _, _ in rows[2:]], [("joint", 1, 0, 0), ("joint", 1, 0, 1)])

    def test_pushes_choose_the_axis(self):
        a_state = state([body(1, 0, 0), body(2, 3, 2)])
        self.assertEqual(rows_of(a_state, ()), (row(("apart", 1, 2, 0), [(1, 0, -1), (2, 0, 1)], -2),))
        self.assertEqual(
            rows_of(a_state, (push(2, -2),)), (row(("apart", 1, 2, 0), [(1, 1, -1), (2, 1, 1)], -1),),
        )

    def test_many(self):
        rng = random.Random(13)
        for _ in range(150):
            a_state = random_state(rng, rng.randint(2, 8))
            pushes = random_pushes(rng, a_state)
            self.assertEqual(rows_of(a_state, pushes), plain_rows(a_state, pushes))
