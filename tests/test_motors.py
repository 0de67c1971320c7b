"""Points 1801 to 1803: motors."""

import random
from fractions import Fraction

from helpers import (
    StateCase, body, fr, joint, number, plain_free, push, random_fraction, random_pushes, random_state, state, vec,
)
from steadybodies.errors import AxisError, IdError, PushError, RowError
from steadybodies.motors import joined, motor_pushes
from steadybodies.rows import free_speeds


def motor(one, other, axis, speed, strength):
    return (one, other, axis, fr(speed), fr(strength))


class MotorPushesTest(StateCase):
    STATE = state([
        body(0, 0, -9, mass=0), body(2, 0, 0), body(3, 5, 0, mass=2), body(5, 9, 9, mass=3, speed=(1, "-1/2")),
        body(6, 20, 0, mass=0),
    ])

    def check(self, motors, expected, pushes=(), a_state=STATE):
        found = motor_pushes(a_state, tuple(pushes), tuple(motors))
        self.assertEqual(found, tuple(push(*entry) for entry in expected))

    def test_none(self):
        self.check([], [])
        self.check([], [(2, 1, 0), (5, 0, 0)], [push(2, 1), push(5)])
        self.check([], [], (), state([]))

    def test_a_wish_that_is_met(self):
        # With 1 and 2 as masses one unit of push changes the difference of the speeds by 3/2.
        self.check([motor(2, 3, 0, 3, 9)], [(2, -2, 0), (3, 2, 0)])
        self.check([motor(2, 3, 1, 3, 9)], [(2, 0, -2), (3, 0, 2)])
        self.check([motor(2, 3, 0, -3, 9)], [(2, 2, 0), (3, -2, 0)])
        self.check([motor(3, 2, 0, 3, 9)], [(2, 2, 0), (3, -2, 0)])
        self.check([motor(2, 5, 0, 1, 9)], [(2, 0, 0), (5, 0, 0)])
        self.check([motor(2, 5, 1, "1/6", 9)], [(2, 0, "-1/2"), (5, 0, "1/2")])

    def test_a_strength_that_ends_first(self):
        for strength in (0, "1/3", "199/100"):
            for sign in (1, -1):
                amount = Fraction(strength) * sign
                self.check([motor(2, 3, 0, 3 * sign, strength)], [(2, -amount, 0), (3, amount, 0)])
        self.check([motor(2, 3, 0, 3, 2)], [(2, -2, 0), (3, 2, 0)])
        self.check([motor(2, 3, 0, -3, 2)], [(2, 2, 0), (3, -2, 0)])

    def test_the_wish_is_reached(self):
        pushes = motor_pushes(self.STATE, (), (motor(5, 3, 1, "7/3", 99),))
        free = {a_body[0]: speed for a_body, speed in zip(self.STATE[0], free_speeds(self.STATE, pushes))}
        self.assertEqual(number(free[3][1]) - number(free[5][1]), Fraction(7, 3))

    def test_one_body_is_fixed(self):
        self.check([motor(0, 3, 0, 3, 9)], [(3, 6, 0)])
        self.check([motor(3, 0, 0, 3, 9)], [(3, -6, 0)])
        self.check([motor(6, 5, 1, 0, 9)], [(5, 0, "3/2")])
        self.check([motor(6, 5, 1, 0, 1)], [(5, 0, 1)])
        self.check([motor(5, 6, 1, 0, "1/2")], [(5, 0, "1/2")])

    def test_pull_speeds_and_pushes_count(self):
        a_state = state([body(0, 0, -9, mass=0), body(4, 0, 0, mass=2, speed=(1, 0))], [], (0, -1))
        self.check([motor(0, 4, 1, 0, 9)], [(4, 0, 2)], (), a_state)
        self.check([motor(0, 4, 0, 0, 9)], [(4, -2, 0)], (), a_state)
        self.check([motor(0, 4, 0, 0, 9)], [(4, -2, 5)], [push(4, 3, 5)], a_state)
        self.check([motor(0, 4, 0, 0, 1)], [(4, 2, 5)], [push(4, 3, 5)], a_state)

    def test_several_on_the_same_body_in_both_orders(self):
        one, other = motor(0, 2, 0, 4, 3), motor(0, 2, 0, 1, 9)
        self.check([one, other], [(2, 1, 0)])
        self.check([other, one], [(2, 4, 0)])
        first, second = motor(2, 3, 0, 3, 9), motor(5, 3, 0, 0, 9)
        self.check([first, second], [(2, -2, 0), (3, 2, 0), (5, 0, 0)])
        self.check([second, first], [(2, "-8/5", 0), (3, "14/5", 0), (5, "-6/5", 0)])
        self.check([motor(0, 2, 0, 4, 9), motor(0, 2, 1, -4, 9)], [(2, 4, -4)])

    def test_the_same_motor_twice(self):
        self.check([motor(0, 2, 0, 4, 3)] * 2, [(2, 4, 0)])
        self.check([motor(0, 2, 0, 8, 3)] * 2, [(2, 6, 0)])

    def test_zero_vectors_stand(self):
        self.check([motor(2, 3, 0, 5, 0)], [(2, 0, 0), (3, 0, 0)])
        self.check([motor(2, 3, 0, 0, 5)], [(2, 0, 0), (3, 0, 0)])
        self.check([motor(0, 3, 1, 0, 5)], [(3, 0, 0)])
        self.check([motor(0, 3, 0, 0, 5)], [(3, 0, 0)], [push(3, 2)])
        self.check([motor(0, 3, 0, 0, 5)], [(2, 0, 0), (3, 0, 0)], [push(2)])

    def test_names_ascend(self):
        self.check([motor(0, 5, 0, 1, 9), motor(0, 2, 0, 1, 9)], [(2, 1, 0), (3, 0, 1), (5, 0, 0)], [push(3, 0, 1)])

    def test_many(self):
        rng = random.Random(181)
        limited = {True: 0, False: 0}
        for _ in range(80):
            a_state = random_state(rng, rng.randint(2, 6))
            moving = [a_body[0] for a_body in a_state[0] if a_body[3]]
            if not moving or len(a_state[0]) < 2:
                continue
            motors = []
            for _ in range(rng.randint(0, 4)):
                one = rng.choice(moving)
                other = rng.choice([a_body[0] for a_body in a_state[0] if a_body[0] != one])
                pair = rng.sample([one, other], 2)
                motors.append(motor(*pair, rng.randint(0, 1), random_fraction(rng, 4), abs(random_fraction(rng, 4))))
            pushes = random_pushes(rng, a_state)
            self.check(motors, self.plain_pushes(a_state, pushes, motors, limited), pushes, a_state)
        self.assertGreater(min(limited.values()), 20)

    def plain_pushes(self, a_state, pushes, motors, limited):
        mass_of = {a_body[0]: a_body[3] for a_body in a_state[0]}
        sums = {name: [number(x), number(y)] for name, (x, y) in pushes}
        for one, other, axis, speed, strength in motors:
            free = plain_free(a_state, [push(name, *vector) for name, vector in sums.items()])
            wish = number(speed) - (number(free[other][axis]) - number(free[one][axis]))
            amount = wish / sum(Fraction(1, mass_of[name]) for name in (one, other) if mass_of[name])
            limited[abs(amount) > number(strength)] += 1
            amount = max(-number(strength), min(number(strength), amount))
            for name, part in ((one, -amount), (other, amount)):
                if mass_of[name]:
                    sums.setdefault(name, [Fraction(0), Fraction(0)])[axis] += part
        return [(name, *sums[name]) for name in sorted(sums)]


class MotorErrorsTest(StateCase):
    STATE = MotorPushesTest.STATE
    GOOD = motor(2, 3, 0, 1, 1)

    def check(self, error, *motors, pushes=()):
        with self.assertRaises(error):
            motor_pushes(self.STATE, pushes, motors)

    def test_id_error(self):
        for one, other in ((1, 2), (2, 1), (2, 2), (0, 0), (7, 9), (-1, 2)):
            self.check(IdError, motor(one, other, 0, 1, 1))
            self.check(IdError, motor(one, other, 2, 1, -1))
            self.check(IdError, self.GOOD, motor(one, other, 0, 1, 1))

    def test_axis_error(self):
        for axis in (-1, 2, 3):
            self.check(AxisError, motor(2, 3, axis, 1, 1))
            self.check(AxisError, motor(0, 6, axis, 1, -1))

    def test_row_error(self):
        self.check(RowError, motor(0, 6, 0, 1, 1))
        self.check(RowError, motor(2, 3, 0, 1, -1))
        self.check(RowError, motor(2, 3, 0, 1, "-1/9"))
        self.check(RowError, self.GOOD, motor(6, 0, 1, 1, 1))

    def test_the_first_motor_with_an_error_decides(self):
        wrong = (
            (IdError, motor(2, 2, 0, 1, 1)), (AxisError, motor(2, 3, 2, 1, 1)), (RowError, motor(0, 6, 0, 1, 1)),
            (RowError, motor(2, 3, 0, 1, -1)),
        )
        for error, first in wrong:
            for _, second in wrong:
                self.check(error, first, second)
                self.check(error, self.GOOD, first, second)

    def test_errors_of_the_state_and_the_pushes_come_first(self):
        for motors in ((), (motor(2, 2, 0, 1, 1),), (motor(0, 6, 2, 1, -1),)):
            self.check_push_errors(lambda a_state, pushes: motor_pushes(a_state, pushes, motors))
        self.check(PushError, motor(2, 2, 0, 1, 1), pushes=(push(0),))

    def test_joints_have_no_effect(self):
        a_state = state([body(1, 0, 0), body(2, 5, 0)], [joint(1, 2, 0, 5, 5)])
        self.assertEqual(motor_pushes(a_state, (), (motor(1, 2, 0, 2, 9),)), (push(1, -1), push(2, 1)))


class JoinedTest(StateCase):
    def check(self, one, other, expected):
        self.assertEqual(joined(tuple(one), tuple(other)), tuple(expected))
        self.assertEqual(joined(tuple(other), tuple(one)), tuple(expected))

    def test_none(self):
        self.check([], [], [])
        self.check([push(4, 1)], [], [push(4, 1)])
        self.check([push(4, 1), push(7)], [], [push(4, 1), push(7)])

    def test_other_bodies(self):
        self.check([push(4, 1)], [push(2, 5)], [push(2, 5), push(4, 1)])
        self.check([push(1, 1), push(5, 5)], [push(0), push(3, 3), push(9, 9)], [
            push(0), push(1, 1), push(3, 3), push(5, 5), push(9, 9),
        ])

    def test_the_same_bodies(self):
        self.check([push(4, 1, "1/2")], [push(4, "-1/3", "1/2")], [push(4, "2/3", 1)])
        self.check([push(4, 1), push(5, 2)], [push(3, 1), push(5, 1, 1)], [push(3, 1), push(4, 1), push(5, 3, 1)])

    def test_a_sum_of_zero_stands(self):
        self.check([push(4, 1, -2)], [push(4, -1, 2)], [push(4)])

    def test_motors_and_pushes(self):
        a_state = MotorPushesTest.STATE
        own = motor_pushes(a_state, (), (motor(2, 3, 0, 3, 2),))
        self.assertEqual(joined(own, (push(3, 1, 1), push(5, 2))), (push(2, -2), push(3, 3, 1), push(5, 2)))

    def test_what_it_is_given_stays_as_it_is(self):
        one, other = (push(1, 1),), (push(1, 2),)
        joined(one, other)
        self.assertEqual((one, other), ((push(1, 1),), (push(1, 2),)))
