"""Points 1 and 701 to 703: the speeds of a tick, their judge, and ticks."""

import random
from fractions import Fraction

from helpers import (
    StateCase, body, fr, joint, number, plain_free, push, random_pushes, random_state, state, vec,
)
from steadybodies.ledger import energy
from steadybodies.states import check_state, renamed
from steadybodies.sweeps import overlap_times
from steadybodies.ticks import check_forces, settled, tick

FLOOR = body(0, -9, -1, 18, 1, 0, "1/2")
PULL = (0, -1)


def force(name, amount):
    return (name, fr(amount))


def random_ticks(rng, count, steps):
    """Random states, each with pushes, several of them in a row behind ticks."""
    for _ in range(count):
        a_state = random_state(rng, rng.randint(1, 7))
        for _ in range(steps):
            pushes = random_pushes(rng, a_state)
            yield a_state, pushes
            a_state, _ = tick(a_state, pushes)


class SettledTest(StateCase):
    def check(self, a_state, pushes, speeds, forces):
        found = settled(a_state, tuple(pushes))
        self.check_speeds(a_state, pushes, *found)
        self.assertEqual(found[0], tuple(vec(*speed) for speed in speeds))
        if forces is not None:
            self.assertEqual(found[1], tuple(forces))
        self.assertIs(check_forces(a_state, pushes, *found), True)

    def test_no_bodies_and_fixed_ones(self):
        self.check(state([], pull=PULL), (), [], [])
        self.check(state([FLOOR, body(1, 0, 0, mass=0)], [joint(0, 1, 0, 9, 9)], PULL), (), [(0, 0), (0, 0)], [])

    def test_nothing_hinders(self):
        bodies = [body(1, 0, 0, mass=2, speed=(1, "1/2")), body(4, 9, 9, mass=3), body(5, -9, 9, mass=0)]
        a_state = state(bodies, [joint(1, 4, 0, 0, 99)], (0, "-1/4"))
        self.check(a_state, (push(4, 3, -6),), [(1, "1/4"), (1, "-9/4"), (0, 0)], [])

    def test_two_bodies_meet(self):
        a_state = state([body(1, 0, 0, speed=(2, 0)), body(2, 2, 0, mass=3)])
        self.check(a_state, (), [("5/4", 0), ("1/4", 0)], [force(("apart", 1, 2, 0), "3/4")])
        a_state = state([body(1, 2, 0), body(2, 0, 0, speed=(2, 0))])
        self.check(a_state, (), [("1/2", 0), ("3/2", 0)], [force(("apart", 1, 2, 0), "1/2")])

    def test_two_bodies_just_touch_at_the_end(self):
        self.check(state([body(1, 0, 0, speed=(1, 0)), body(2, 2, 0)]), (), [(1, 0), (0, 0)], [])

    def test_meeting_a_fixed_body(self):
        a_state = state([FLOOR, body(3, 0, 2, mass=5, speed=(1, -3))])
        self.check(a_state, (), [(0, 0), (1, -2)], [force(("apart", 0, 3, 0), 5)])

    def test_touching_bodies_that_part(self):
        a_state = state([body(1, 0, 0, speed=(-1, 0)), body(2, 1, 0, speed=(0, 0))])
        self.check(a_state, (), [(-1, 0), (0, 0)], [])

    def test_bodies_on_each_other(self):
        bodies = [body(0, -9, -1, 18, 1, 0), body(1, 0, 0, mass=2), body(2, 0, 1, mass=3)]
        forces = [force(("apart", 0, 1, 0), 5), force(("apart", 1, 2, 0), 3)]
        self.check(state(bodies, pull=PULL), (), [(0, 0)] * 3, forces)

    def test_joined_bodies(self):
        bodies = [body(1, 0, 0), body(2, 3, 0, mass=3)]
        a_state = state(bodies, [joint(1, 2, 0, 3, 3)])
        self.check(a_state, (push(1, 4, 1),), [(1, 1), (1, 0)], [force(("joint", 0, 0, 0), 3)])
        self.check(a_state, (push(1, -4),), [(-1, 0), (-1, 0)], [force(("joint", 0, 0, 1), 3)])

    def test_a_joint_with_room(self):
        a_state = state([body(1, 0, 0), body(2, 3, 0)], [joint(2, 1, 0, -4, "-5/2")])
        self.check(a_state, (push(2, 1),), [(0, 0), (1, 0)], [])
        self.check(a_state, (push(2, 3),), [(1, 0), (2, 0)], [force(("joint", 0, 0, 0), 1)])
        self.check(a_state, (push(2, "-3/2"),), [("-1/2", 0), (-1, 0)], [force(("joint", 0, 0, 1), "1/2")])

    def test_a_joint_with_a_fixed_body(self):
        a_state = state([FLOOR, body(3, 0, 5, mass=2)], [joint(0, 3, 1, 6, 6)], PULL)
        self.check(a_state, (), [(0, 0), (0, 0)], [force(("joint", 0, 0, 0), 2)])

    def test_grip(self):
        a_state = state([FLOOR, body(3, 0, 0, mass=2, grip=1)], pull=PULL)
        one, other = ("apart", 0, 3, 0), ("apart", 0, 3, 1)
        self.check(a_state, (), [(0, 0), (0, 0)], [force(one, 1), force(other, 1)])
        self.check(a_state, (push(3, "1/2"),), [(0, 0), (0, 0)], [force(one, "1/2"), force(other, "3/2")])
        self.check(a_state, (push(3, 1),), [(0, 0), (0, 0)], [force(other, 2)])
        self.check(a_state, (push(3, 2),), [(0, 0), ("2/5", "1/5")], [force(other, "12/5")])
        self.check(a_state, (push(3, -2),), [(0, 0), ("-2/5", "1/5")], [force(one, "12/5")])

    def test_without_grip(self):
        a_state = state([FLOOR, body(3, 0, 0, mass=2)], pull=PULL)
        self.check(a_state, (push(3, 1),), [(0, 0), ("1/2", 0)], [force(("apart", 0, 3, 0), 2)])

    def test_pushed_up_and_down(self):
        a_state = state([FLOOR, body(3, 0, 0, mass=2)], pull=PULL)
        self.check(a_state, (push(3, 0, 3),), [(0, 0), (0, "1/2")], [])
        self.check(a_state, (push(3, 0, -3),), [(0, 0), (0, 0)], [force(("apart", 0, 3, 0), 5)])

    def test_a_row_of_bodies_pushes_the_last_one(self):
        bodies = [body(1, 0, 0, speed=(4, 0)), body(2, 1, 0), body(5, 2, 0, mass=2)]
        forces = [force(("apart", 1, 2, 0), 3), force(("apart", 2, 5, 0), 2)]
        self.check(state(bodies), (), [(1, 0)] * 3, forces)

    def test_names_in_another_order_than_places(self):
        bodies = [body(1, 2, 0, mass=2), body(2, 0, 0, speed=(4, 0)), body(5, 1, 0)]
        forces = [force(("apart", 1, 5, 0), 2), force(("apart", 2, 5, 0), 3)]
        self.check(state(bodies), (), [(1, 0)] * 3, forces)

    def test_many(self):
        for a_state, pushes in random_ticks(random.Random(31), 60, 3):
            found = settled(a_state, pushes)
            self.check_speeds(a_state, pushes, *found)
            self.assertIs(check_forces(a_state, pushes, *found), True)

    def test_many_bodies(self):
        bodies = [FLOOR] + [body(k, Fraction(k % 3 - 1, 4), k - 1, mass=k, grip="1/2") for k in range(1, 24)]
        a_state = state(bodies, [joint(k, k + 1, 0, -1, 1) for k in range(1, 23)], PULL)
        pushes = (push(2, 1), push(9, -7, 3), push(20, 90))
        self.check_speeds(a_state, pushes, *settled(a_state, pushes))

    def test_contact_makes_no_energy(self):
        for a_state, pushes in random_ticks(random.Random(32), 40, 2):
            free = plain_free(a_state, pushes)
            bodies = tuple(a_body[:5] + (free[a_body[0]],) for a_body in a_state[0])
            before = number(energy((bodies, a_state[1], a_state[2])))
            self.assertLessEqual(number(energy(tick(a_state, pushes)[0])), before)

    def test_errors(self):
        self.check_push_errors(settled)
        self.check_push_errors(tick)


class CheckForcesTest(StateCase):
    """Two bodies on the floor, one pushed against the other, both with grip."""

    STATE = state([FLOOR, body(1, 0, 0, mass=2, grip=1), body(2, 1, 0, mass=1), body(3, 2, 5)], pull=PULL)
    PUSHES = (push(1, 3),)
    SPEEDS, FORCES = settled(STATE, PUSHES)

    def check(self, expected, speeds, forces):
        self.assertIs(check_forces(self.STATE, self.PUSHES, tuple(speeds), tuple(forces)), expected)

    def changed(self, at, amount):
        forces = list(self.FORCES)
        forces[at] = (forces[at][0], fr(amount))
        return forces

    def test_what_settled_returns(self):
        self.assertEqual([name for name, _ in self.FORCES], [
            ("apart", 0, 1, 1), ("apart", 0, 2, 0), ("apart", 1, 2, 0),
        ])
        self.check(True, self.SPEEDS, self.FORCES)

    def test_a_changed_amount(self):
        for at, (_, amount) in enumerate(self.FORCES):
            for factor in (2, "1/2", 0, -1, "99/100"):
                self.check(False, self.SPEEDS, self.changed(at, number(amount) * Fraction(factor)))

    def test_a_force_left_out(self):
        for at in range(len(self.FORCES)):
            self.check(False, self.SPEEDS, self.FORCES[:at] + self.FORCES[at + 1:])
        self.check(False, self.SPEEDS, ())

    def test_exchanged_forces(self):
        (one, amount), (two, other), last = self.FORCES
        self.check(False, self.SPEEDS, ((two, other), (one, amount), last))
        self.check(False, self.SPEEDS, ((one, other), (two, amount), last))
        self.check(False, self.SPEEDS, (last, (one, amount), (two, other)))
        self.check(False, self.SPEEDS, self.FORCES[::-1])

    def test_an_added_force(self):
        tight = ("apart", 0, 1, 0)
        loose = ("apart", 1, 3, 0)
        for name in (tight, loose):
            for amount in (1, 0, -1):
                forces = sorted([*self.FORCES, force(name, amount)])
                self.check(False, self.SPEEDS, forces)
        for at in range(len(self.FORCES)):
            self.check(False, self.SPEEDS, self.FORCES[:at] + (self.FORCES[at],) + self.FORCES[at:])

    def test_an_amount_in_two_parts(self):
        name, amount = self.FORCES[0]
        half = force(name, number(amount) / 2)
        self.check(False, self.SPEEDS, (half, half) + self.FORCES[1:])

    def test_a_changed_speed(self):
        for at in (1, 2, 3):
            for way in ((1, 0), (-1, 0), (0, 1), (0, -1), (1, 1)):
                x, y = self.SPEEDS[at]
                speeds = list(self.SPEEDS)
                speeds[at] = vec(number(x) + way[0], number(y) + way[1])
                self.check(False, speeds, self.FORCES)

    def test_a_speed_for_a_fixed_body(self):
        for speed in (vec(1, 0), vec(0, "-1/2")):
            self.check(False, (speed,) + self.SPEEDS[1:], self.FORCES)

    def test_too_few_or_too_many_speeds(self):
        for speeds in ((), self.SPEEDS[:-1], self.SPEEDS[1:], self.SPEEDS + (vec(0, 0),)):
            self.check(False, speeds, self.FORCES)

    def test_a_name_that_is_no_row(self):
        wrong = [
            ("apart", 1, 0, 1), ("apart", 0, 1, 2), ("apart", 0, 9, 0), ("joint", 0, 0, 0), ("apart", 0, 2, 1),
            ("apart", 0, 0, 0), ("part", 0, 1, 1),
        ]
        _, amount = self.FORCES[0]
        for name in wrong:
            self.check(False, self.SPEEDS, ((name, amount),) + self.FORCES[1:])
            self.check(False, self.SPEEDS, (force(name, 0),) + self.FORCES)
            self.check(False, self.SPEEDS, self.FORCES + (force(name, 1),))

    def test_a_row_that_does_not_hold(self):
        a_state = state([body(1, 0, 0, speed=(1, 0)), body(2, 1, 0)])
        self.assertIs(check_forces(a_state, (), (vec(1, 0), vec(0, 0)), ()), False)
        self.assertIs(check_forces(a_state, (), (vec("1/2", 0), vec("1/2", 0)), ()), False)
        good = (force(("apart", 1, 2, 0), "1/2"),)
        self.assertIs(check_forces(a_state, (), (vec("1/2", 0), vec("1/2", 0)), good), True)

    def test_several_forces_are_possible(self):
        # Two equal joints: either may bear the load, or both.
        a_state = state([FLOOR, body(1, 0, 5)], [joint(0, 1, 1, 6, 6), joint(0, 1, 1, 6, 7)], PULL)
        speeds = (vec(0, 0), vec(0, 0))
        one, two = ("joint", 0, 0, 0), ("joint", 1, 0, 0)
        for forces in ((force(one, 1),), (force(two, 1),), (force(one, "1/4"), force(two, "3/4"))):
            self.assertIs(check_forces(a_state, (), speeds, forces), True)
        self.assertIs(check_forces(a_state, (), speeds, (force(one, 1), force(two, 1))), False)

    def test_no_bodies(self):
        self.assertIs(check_forces(state([]), (), (), ()), True)
        self.assertIs(check_forces(state([]), (), (vec(0, 0),), ()), False)

    def test_many(self):
        rng = random.Random(33)
        for a_state, pushes in random_ticks(rng, 30, 2):
            speeds, forces = settled(a_state, pushes)
            for at, speed in enumerate(speeds):
                other = (vec(number(speed[0]) + 1, number(speed[1])),)
                self.assertIs(check_forces(a_state, pushes, speeds[:at] + other + speeds[at + 1:], forces), False)
            for at in range(len(forces)):
                self.assertIs(check_forces(a_state, pushes, speeds, forces[:at] + forces[at + 1:]), False)

    def test_errors(self):
        self.check_push_errors(lambda a_state, pushes: check_forces(a_state, pushes, (), ()))


class TickTest(StateCase):
    def test_speeds_and_places(self):
        a_state = state(
            [FLOOR, body(1, 0, 0, mass=2, speed=("1/2", 0)), body(2, 3, 2, 2, 1, mass=1, grip=3)],
            [joint(1, 2, 0, 2, 4)],
            (0, "-1/4"),
        )
        pushes = (push(2, -3),)
        expected = state(
            [
                FLOOR,
                body(1, "-1/3", 0, mass=2, speed=("-1/3", 0)),
                body(2, "5/3", "7/4", 2, 1, mass=1, grip=3, speed=("-4/3", "-1/4")),
            ],
            [joint(1, 2, 0, 2, 4)],
            (0, "-1/4"),
        )
        self.assertEqual(tick(a_state, pushes), (expected, settled(a_state, pushes)[1]))
        self.assertIsNone(check_state(expected))

    def test_no_bodies(self):
        self.assertEqual(tick(state([], pull=PULL), ()), (state([], pull=PULL), ()))

    def test_each_body_moves_by_its_speed(self):
        for a_state, pushes in random_ticks(random.Random(34), 25, 3):
            speeds, forces = settled(a_state, pushes)
            found, found_forces = tick(a_state, pushes)
            self.assertEqual(found_forces, forces)
            self.assertEqual(found[1:], a_state[1:])
            for before, after, speed in zip(a_state[0], found[0], speeds):
                place = vec(*[number(before[1][axis]) + number(speed[axis]) for axis in (0, 1)])
                self.assertEqual(after, (before[0], place) + before[2:5] + (speed,))

    def test_no_overlap_at_any_time(self):
        for a_state, pushes in random_ticks(random.Random(35), 25, 4):
            found, _ = tick(a_state, pushes)
            self.assertIsNone(check_state(found))
            bodies = [(a_body[1:3], other[5]) for a_body, other in zip(a_state[0], found[0])]
            for at, (one, speed) in enumerate(bodies):
                for other, other_speed in bodies[at + 1:]:
                    self.assertIsNone(overlap_times(one, speed, other, other_speed))

    def test_joints_hold_at_all_times(self):
        held = []
        for a_state, pushes in random_ticks(random.Random(36), 40, 4):
            found, _ = tick(a_state, pushes)
            starts = {a_body[0]: a_body[1] for a_body in a_state[0]}
            ends = {a_body[0]: a_body[1] for a_body in found[0]}
            for one, other, axis, low, high in a_state[1]:
                for part in (Fraction(0), Fraction(1, 3), Fraction(1)):
                    way = self.way(starts, one, other, axis) * (1 - part) + self.way(ends, one, other, axis) * part
                    self.assertTrue(number(low) <= way <= number(high))
                held.append(way in (number(low), number(high)))
        self.assertTrue(True in held and False in held)

    def way(self, places, one, other, axis):
        return number(places[other][axis]) - number(places[one][axis])

    def test_new_names_have_no_effect(self):
        rng = random.Random(37)
        for a_state, pushes in random_ticks(rng, 25, 2):
            old = [a_body[0] for a_body in a_state[0]]
            new = dict(zip(old, rng.sample(range(99), len(old))))
            names = tuple(new.values())
            new_pushes = tuple(sorted((new[name], vector) for name, vector in pushes))
            found, _ = tick(renamed(a_state, names), new_pushes)
            self.assertEqual(found, renamed(tick(a_state, pushes)[0], names))

    def test_another_order_of_joints_has_no_effect(self):
        rng = random.Random(38)
        for a_state, pushes in random_ticks(rng, 25, 2):
            joints = tuple(rng.sample(a_state[1], len(a_state[1])))
            found, _ = tick((a_state[0], joints, a_state[2]), pushes)
            self.assertEqual(found, (tick(a_state, pushes)[0][0], joints, a_state[2]))

    def test_what_it_is_given_stays_as_it_is(self):
        a_state = state([FLOOR, body(1, 0, 0, speed=(0, -1))], [joint(0, 1, 0, 0, 9)], PULL)
        same = state([FLOOR, body(1, 0, 0, speed=(0, -1))], [joint(0, 1, 0, 0, 9)], PULL)
        pushes = (push(1, 1),)
        tick(a_state, pushes)
        self.assertEqual((a_state, pushes), (same, (push(1, 1),)))
