"""Points 1901 to 1903: limbs, their play, and poses."""

import random
from fractions import Fraction

from helpers import StateCase, body, fr, joint, number, random_state, state, vec
from steadybodies.errors import AxisError, BodyError, IdError, JointError, OverlapError
from steadybodies.limbs import limbs, play, posed
from steadybodies.states import check_state


def row_of(count, joints, fixed=()):
    """Bodies 0, 1, .. at the places (3 name, 3 name)."""
    return state([body(name, 3 * name, 3 * name, mass=int(name not in fixed)) for name in range(count)], joints)


class LimbsTest(StateCase):
    def check(self, expected, count, *pairs, fixed=()):
        joints = [joint(one, other, axis, -99, 99) for one, other, axis in pairs]
        self.assertEqual(limbs(row_of(count, joints, fixed)), expected)

    def test_bodies_alone(self):
        self.check((), 0)
        self.check(((0,),), 1)
        self.check(((0,), (1,), (2,)), 3)
        self.check(((0,), (1,)), 2, fixed=(0, 1))

    def test_a_chain(self):
        self.check(((0, 1, 2, 3),), 4, (0, 1, 0), (1, 2, 1), (2, 3, 0))
        self.check(((0, 1, 2, 3),), 4, (3, 2, 0), (0, 1, 0), (2, 1, 1))
        self.check(((0, 2), (1, 4), (3,)), 5, (2, 0, 0), (1, 4, 1))
        self.check(((0, 4), (1, 3), (2,)), 5, (3, 1, 0), (4, 0, 1))

    def test_by_a_fixed_body(self):
        self.check(((0, 1, 2),), 3, (0, 1, 0), (1, 2, 0), fixed=(1,))
        self.check(((0, 1), (2,)), 3, (0, 1, 0), fixed=(1, 2))
        self.check(((0, 1), (2,)), 3, (0, 1, 0), fixed=(0, 1))

    def test_a_ring(self):
        self.check(((0, 1, 2), (3,)), 4, (0, 1, 0), (1, 2, 0), (2, 0, 0))
        self.check(((0, 1), (2, 3)), 4, (0, 1, 0), (1, 0, 0), (0, 1, 1), (2, 3, 0))

    def test_they_ascend_as_numbers(self):
        bodies = [body(name, 3 * name, 0) for name in (2, 10, 30, 100)]
        self.assertEqual(limbs(state(bodies, [joint(100, 2, 0, -999, 0)])), ((2, 100), (10,), (30,)))

    def test_errors(self):
        self.check_state_errors(limbs)


class PlayTest(StateCase):
    def check(self, a_state, one, other, low, high, axis=0):
        self.assertEqual(play(a_state, one, other, axis), (fr(low), fr(high)))
        self.assertEqual(play(a_state, other, one, axis), (fr(-Fraction(high)), fr(-Fraction(low))))

    def check_free(self, a_state, one, other, axis=0):
        self.assertEqual(play(a_state, one, other, axis), (None, None))
        self.assertEqual(play(a_state, other, one, axis), (None, None))

    def test_one_joint(self):
        a_state = row_of(2, [joint(0, 1, 0, 2, "7/2")])
        self.check(a_state, 0, 1, 2, "7/2")
        self.check_free(a_state, 0, 1, 1)
        self.check(row_of(2, [joint(1, 0, 0, "-7/2", 1)]), 0, 1, -1, "7/2")
        self.check(row_of(2, [joint(0, 1, 0, 3, 3)]), 0, 1, 3, 3)

    def test_a_chain(self):
        joints = [joint(0, 1, 0, 2, 4), joint(2, 1, 0, -5, -1), joint(2, 3, 0, 0, "7/2"), joint(0, 2, 1, 0, 9)]
        a_state = row_of(4, joints)
        self.check(a_state, 0, 2, 3, 9)
        self.check(a_state, 0, 3, 3, "25/2")
        self.check(a_state, 1, 3, 1, "17/2")
        self.check(a_state, 0, 2, 0, 9, 1)
        self.check_free(a_state, 0, 1, 1)

    def test_a_ring(self):
        joints = [joint(0, 1, 0, 2, 4), joint(1, 2, 0, 2, 4), joint(0, 2, 0, 5, 7)]
        a_state = row_of(3, joints)
        self.check(a_state, 0, 2, 5, 7)
        self.check(a_state, 0, 1, 2, 4)
        narrow = row_of(3, joints[:2] + [joint(0, 2, 0, 6, 20)])
        self.check(narrow, 0, 2, 6, 8)
        self.check(narrow, 0, 1, 2, 4)
        tight = row_of(3, [joint(0, 1, 0, 0, 9), joint(1, 2, 0, 2, 4), joint(2, 0, 0, -7, "-11/2")])
        self.check(tight, 0, 1, "3/2", 5)

    def test_several_ways(self):
        joints = [joint(0, 1, 0, -9, 9), joint(1, 3, 0, 0, 9), joint(0, 2, 0, 5, 6), joint(2, 3, 0, 1, 99)]
        self.check(row_of(4, joints), 0, 3, 6, 18)
        self.check(row_of(4, joints + [joint(0, 3, 0, 7, 10)]), 0, 3, 7, 10)

    def test_two_joints_between_the_same_bodies(self):
        self.check(row_of(2, [joint(0, 1, 0, 1, 4), joint(0, 1, 0, 2, 9), joint(1, 0, 0, -8, -1)]), 0, 1, 2, 4)

    def test_both_fixed(self):
        for joints in ([], [joint(0, 1, 0, 0, 99)], [joint(0, 2, 0, 0, 99), joint(2, 1, 0, -99, 9)]):
            self.check(row_of(3, joints, (0, 1)), 0, 1, 3, 3)
            self.check(row_of(3, joints, (0, 1)), 1, 0, -3, -3, 1)

    def test_no_way(self):
        a_state = row_of(4, [joint(0, 1, 0, 0, 9), joint(2, 3, 0, 0, 9), joint(1, 2, 1, 0, 9)], (3,))
        self.check_free(a_state, 0, 2)
        self.check_free(a_state, 0, 3)
        self.check_free(a_state, 1, 2)
        self.check(a_state, 1, 2, 0, 9, 1)

    def test_the_same_body_twice(self):
        for fixed in ((), (0,)):
            for joints in ([], [joint(0, 1, 0, 2, 4)]):
                for axis in (0, 1):
                    self.check(row_of(2, joints, fixed), 0, 0, 0, 0, axis)

    def test_fixed_bodies_elsewhere_bound_both(self):
        # Body 1 hangs on the fixed 0, body 2 on the fixed 3, which is 9 to the right of 0.
        a_state = row_of(4, [joint(0, 1, 0, 2, 4), joint(2, 3, 0, 1, 5)], (0, 3))
        self.check(a_state, 1, 2, 0, 6)
        self.check(a_state, 0, 2, 4, 8)
        self.check(a_state, 1, 3, 5, 7)
        self.check_free(a_state, 1, 2, 1)
        a_state = row_of(5, [joint(0, 1, 1, 3, 3), joint(4, 2, 1, -8, "-11/2")], (0, 3, 4))
        self.check(a_state, 1, 2, 1, "7/2", 1)

    def test_overlaps_do_not_matter(self):
        self.check(row_of(2, [joint(0, 1, 0, -9, 9), joint(0, 1, 1, 0, 9)]), 0, 1, -9, 9)

    def test_many(self):
        rng = random.Random(191)
        kinds = {"free": 0, "bound": 0}
        for _ in range(60):
            a_state = random_state(rng, 6)
            names = [a_body[0] for a_body in a_state[0]]
            for axis in (0, 1):
                expected = self.plain_play(a_state, axis)
                for one in names:
                    for other in names:
                        if expected[one, other] is None:
                            self.check_free(a_state, one, other, axis)
                        else:
                            self.check(a_state, one, other, -expected[other, one], expected[one, other], axis)
                        kinds["free" if expected[one, other] is None else "bound"] += one != other
        self.assertGreater(min(kinds.values()), 50)

    def plain_play(self, a_state, axis):
        """The greatest differences: all ways over one more body, again and again."""
        bodies, joints, _ = a_state
        names = [a_body[0] for a_body in bodies]
        most = {(one, other): None for one in names for other in names}

        def put(one, other, bound):
            if most[one, other] is None or bound < most[one, other]:
                most[one, other] = bound

        for one in bodies:
            put(one[0], one[0], Fraction(0))
            for other in bodies:
                if not one[3] and not other[3]:
                    put(one[0], other[0], number(other[1][axis]) - number(one[1][axis]))
        for one, other, own_axis, low, high in joints:
            if own_axis == axis:
                put(one, other, number(high))
                put(other, one, -number(low))
        for middle in names:
            for one in names:
                for other in names:
                    if most[one, middle] is not None and most[middle, other] is not None:
                        put(one, other, most[one, middle] + most[middle, other])
        return most

    def test_errors(self):
        a_state = row_of(3, [joint(0, 1, 0, 0, 9)], (2,))
        for one, other in ((0, 3), (3, 0), (3, 3), (-1, 0), (0, -1)):
            for axis in (0, 1, 2, -1):
                with self.assertRaises(IdError):
                    play(a_state, one, other, axis)
        for one, other in ((0, 1), (0, 0), (2, 2), (1, 2)):
            for axis in (-1, 2, 3):
                with self.assertRaises(AxisError):
                    play(a_state, one, other, axis)
        self.check_state_errors(lambda a_state: play(a_state, 99, 99, 2))


class PosedTest(StateCase):
    STATE = state(
        [body(0, 0, -1, 9, 1, 0, 1), body(2, 0, 0, speed=(1, 2)), body(3, 3, 0, mass=2, grip=1), body(7, 6, 0)],
        [joint(2, 3, 0, 2, 4), joint(0, 7, 1, 0, 9)],
        (0, -1),
    )

    def check(self, *places):
        expected = {name: vec(x, y) for name, x, y in places}
        found = posed(self.STATE, tuple(expected.items()))
        bodies = tuple((a_body[0], expected.get(a_body[0], a_body[1])) + a_body[2:] for a_body in self.STATE[0])
        self.assertEqual(found, (bodies,) + self.STATE[1:])
        self.assertIsNone(check_state(found))

    def check_error(self, error, *places):
        with self.assertRaises(error):
            posed(self.STATE, tuple((name, vec(x, y)) for name, x, y in places))

    def test_none(self):
        self.check()
        self.assertEqual(posed(state([]), ()), state([]))

    def test_places_that_keep_all_joints(self):
        self.check((2, 1, 0))
        self.check((3, 2, 5))
        self.check((2, 20, 0), (3, 23, "1/3"))
        self.check((2, 40, 7), (3, 43, 6), (7, -5, 8))

    def test_places_that_are_changed_with_each_other(self):
        self.check((2, 3, 0), (3, 6, 0), (7, 0, 0))

    def test_broken_joints(self):
        self.check_error(JointError, (2, "3/2", 0))
        self.check_error(JointError, (2, -2, 0))
        self.check_error(JointError, (3, "9/2", 3))
        self.check_error(JointError, (7, 6, 9))

    def test_overlaps(self):
        self.check_error(OverlapError, (2, 0, "-1/2"))
        self.check_error(OverlapError, (7, 3, 0))
        self.check_error(OverlapError, (2, 6, 0))
        self.check_error(OverlapError, (2, 50, 0), (3, 50, 0))

    def test_wrong_names(self):
        for names in ((0,), (1,), (8,), (-1,), (3, 2), (2, 2), (2, 3, 3), (2, 3, 5), (0, 2), (7, 3, 2), (99,)):
            self.check_error(IdError, *[(name, 100 * name, 0) for name in names])

    def test_their_order(self):
        self.check_error(IdError, (7, 3, 0), (2, 9, 9))
        self.check_error(IdError, (0, 0, "1/2"))
        self.check_error(OverlapError, (2, 6, 0), (3, 99, 99))

    def test_errors_of_the_state_come_first(self):
        for places in ((), ((99, vec(0, 0)),), ((0, vec(50, 50)),)):
            self.check_state_errors(lambda a_state: posed(a_state, places))
        flawed = (self.STATE[0] + (self.STATE[0][1],),) + self.STATE[1:]
        with self.assertRaises(BodyError):
            posed(flawed, ((99, vec(0, 0)),))
