"""Points 704 and 705: momentum, energy, forces on bodies, contacts."""

import random
from fractions import Fraction

from helpers import (
    StateCase, body, fr, joint, low_high, number, plain_free, plain_gap, push, random_pushes, random_state, state, vec,
)
from steadybodies.errors import IdError, RowError
from steadybodies.ledger import contacts, energy, force_on, momentum
from steadybodies.ticks import settled, tick

FLOOR = body(0, -9, -1, 18, 1, 0, "1/2")
PULL = (0, -1)


def force(name, amount):
    return (name, fr(amount))


class SumsTest(StateCase):
    def check(self, a_state, expected_momentum, expected_energy):
        self.assertEqual(momentum(a_state), vec(*expected_momentum))
        self.assertEqual(energy(a_state), fr(expected_energy))

    def test_without_moving_bodies(self):
        self.check(state([]), (0, 0), 0)
        self.check(state([FLOOR], pull=PULL), (0, 0), 0)

    def test_one_body(self):
        self.check(state([body(3, 0, 0, mass=6, speed=("1/2", "-1/3"))]), (3, -2), "13/6")

    def test_several_bodies(self):
        bodies = [FLOOR, body(1, 0, 0, mass=2, speed=(3, 1)), body(2, 3, 0, mass=5, speed=("-1/5", 0)), body(4, 6, 0)]
        self.check(state(bodies, pull=(7, 7)), (5, 2), "101/5")

    def test_opposite_speeds(self):
        bodies = [body(1, 0, 0, mass=2, speed=(3, -1)), body(2, 3, 0, mass=2, speed=(-3, 1))]
        self.check(state(bodies), (0, 0), 40)

    def test_errors(self):
        self.check_state_errors(momentum)
        self.check_state_errors(energy)


class ForceOnTest(StateCase):
    STATE = state(
        [FLOOR, body(1, 0, 0, mass=2, grip=1), body(2, 1, 0), body(4, 20, 0, mass=0)],
        [joint(1, 2, 0, 0, 1), joint(0, 4, 0, 29, 29)],
        PULL,
    )
    PUSHES = (push(1, 3),)

    def check(self, forces, *expected):
        for a_body, vector in zip(self.STATE[0], expected):
            with self.subTest(a_body[0]):
                self.assertEqual(force_on(self.STATE, self.PUSHES, tuple(forces), a_body[0]), vec(*vector))

    def test_no_forces(self):
        self.check([], (0, 0), (0, 0), (0, 0), (0, 0))

    def test_one_row(self):
        self.check([force(("apart", 1, 2, 0), 3)], (0, 0), (-3, 0), (3, 0), (0, 0))
        self.check([force(("joint", 0, 0, 1), "1/2")], (0, 0), ("1/2", 0), ("-1/2", 0), (0, 0))

    def test_a_fixed_body_has_its_parts(self):
        self.check([force(("apart", 0, 2, 0), 3)], (0, -3), (0, 0), (0, 3), (0, 0))
        self.check([force(("apart", 0, 1, 0), 2)], (-1, -2), (1, 2), (0, 0), (0, 0))
        self.check([force(("apart", 0, 1, 1), 2)], (1, -2), (-1, 2), (0, 0), (0, 0))
        self.check([force(("apart", 2, 4, 0), 5)], (0, 0), (0, 0), (-5, 0), (5, 0))

    def test_a_fixed_body_has_its_parts_of_joints(self):
        a_state = state([FLOOR, body(1, 0, 5)], [joint(1, 0, 1, -6, 0)], PULL)
        forces = (force(("joint", 0, 0, 0), 3),)
        self.assertEqual(force_on(a_state, (), forces, 0), vec(0, 3))
        self.assertEqual(force_on(a_state, (), forces, 1), vec(0, -3))

    def test_rows_twice_and_in_any_order(self):
        forces = [
            force(("joint", 0, 0, 0), 4), force(("apart", 1, 2, 0), 3), force(("apart", 0, 1, 1), 2),
            force(("apart", 1, 2, 0), "1/2"), force(("joint", 0, 0, 0), -1), force(("apart", 0, 1, 0), 0),
        ]
        self.check(forces, (1, -2), ("-15/2", 2), ("13/2", 0), (0, 0))
        self.check(forces[::-1], (1, -2), ("-15/2", 2), ("13/2", 0), (0, 0))

    def test_rows_twice(self):
        for amounts in ((1, 1), (3, -1), (0, 2)):
            forces = [force(("apart", 0, 2, 0), amount) for amount in amounts]
            self.check(forces, (0, -2), (0, 0), (0, 2), (0, 0))

    def test_forces_of_a_tick(self):
        rng = random.Random(41)
        for _ in range(40):
            a_state = random_state(rng, rng.randint(1, 7))
            pushes = random_pushes(rng, a_state)
            speeds, forces = settled(a_state, pushes)
            free = plain_free(a_state, pushes)
            totals = [Fraction(0), Fraction(0)]
            for a_body, speed in zip(a_state[0], speeds):
                on_it = force_on(a_state, pushes, forces, a_body[0])
                for axis in (0, 1):
                    totals[axis] += number(on_it[axis])
                    if a_body[3]:
                        way = number(speed[axis]) - number(free[a_body[0]][axis])
                        self.assertEqual(number(on_it[axis]), a_body[3] * way)
            # Each force on one body has its opposite on another one.
            self.assertEqual(totals, [0, 0])

    def test_each_force_is_opposite_on_two_bodies(self):
        rng = random.Random(42)
        for _ in range(20):
            a_state = random_state(rng, 5)
            for name, amount in settled(a_state, ())[1]:
                on_all = [force_on(a_state, (), ((name, amount),), a_body[0]) for a_body in a_state[0]]
                pushed = [vector for vector in on_all if vector != vec(0, 0)]
                self.assertEqual(len(pushed), 2)
                self.assertEqual([number(entry) for entry in pushed[0]], [-number(entry) for entry in pushed[1]])

    def test_unknown_bodies(self):
        for name in (-1, 3, 5):
            with self.assertRaises(IdError):
                force_on(self.STATE, self.PUSHES, (force(("apart", 1, 2, 0), 3),), name)

    def test_names_that_are_no_rows(self):
        wrong = [
            ("apart", 2, 1, 0), ("apart", 1, 2, 1), ("apart", 0, 4, 0), ("apart", 1, 3, 0), ("joint", 1, 0, 0),
            ("joint", 2, 0, 0), ("joint", 0, 0, 2), ("joint", 0, 1, 0), ("joint", -1, 0, 0), ("apart", 0, 2, 1),
            ("Apart", 1, 2, 0),
        ]
        for name in wrong:
            for forces in ([force(name, 1)], [force(("apart", 1, 2, 0), 3), force(name, 0)]):
                for a_body in self.STATE[0]:
                    with self.subTest(name), self.assertRaises(RowError):
                        force_on(self.STATE, self.PUSHES, tuple(forces), a_body[0])

    def test_id_error_comes_before_row_error(self):
        with self.assertRaises(IdError):
            force_on(self.STATE, self.PUSHES, (force(("apart", 2, 1, 0), 1),), 3)

    def test_pushes_choose_the_rows(self):
        a_state = state([body(1, 0, 0), body(2, 3, 2)])
        forces = (force(("apart", 1, 2, 0), 1),)
        self.assertEqual(force_on(a_state, (), forces, 2), vec(1, 0))
        self.assertEqual(force_on(a_state, (push(2, -2),), forces, 2), vec(0, 1))

    def test_errors(self):
        self.check_push_errors(lambda a_state, pushes: force_on(a_state, pushes, (force(("row", 0, 0, 0), 1),), 99))


class ContactsTest(StateCase):
    def check(self, bodies, *expected):
        found = contacts(state(bodies))
        self.assertEqual(found, tuple((i, j, axis, fr(low), fr(high)) for i, j, axis, low, high in expected))

    def test_none(self):
        self.check([])
        self.check([body(1, 0, 0)])
        self.check([body(1, 0, 0), body(2, "11/10", 0), body(4, 0, 2)])

    def test_an_edge(self):
        self.check([body(1, 0, 0, 1, 2), body(2, 1, "1/2", 1, 4)], (1, 2, 0, "1/2", 2))
        self.check([body(1, 1, "1/2", 1, 4), body(2, 0, 0, 1, 2)], (1, 2, 0, "1/2", 2))
        self.check([body(1, 0, 0), body(2, "-1/3", 1)], (1, 2, 1, 0, "2/3"))

    def test_a_corner(self):
        self.check([body(1, 0, 0), body(2, 1, 1)], (1, 2, 0, 1, 1), (1, 2, 1, 1, 1))
        self.check([body(1, 0, 0), body(2, -1, 1)], (1, 2, 0, 1, 1), (1, 2, 1, 0, 0))

    def test_no_touch_along_a_line(self):
        self.check([body(1, 0, 0), body(2, 1, "3/2")])
        self.check([body(1, 0, 0), body(2, 5, 1)])

    def test_two_fixed_bodies(self):
        self.check([body(1, 0, 0, mass=0), body(2, 1, 0, mass=0)])
        self.check([body(1, 0, 0, mass=0), body(2, 1, 0)], (1, 2, 0, 0, 1))
        self.check([body(1, 0, 0), body(2, 1, 0, mass=0)], (1, 2, 0, 0, 1))

    def test_speeds_do_not_count(self):
        self.check([body(1, 0, 0, speed=(-5, 0)), body(2, 1, 0, speed=(5, 5))], (1, 2, 0, 0, 1))

    def test_order(self):
        bodies = [body(1, 1, 1), body(3, 0, 0), body(5, 1, 0), body(7, 0, 1), body(9, 5, 5)]
        self.check(
            bodies,
            (1, 3, 0, 1, 1), (1, 3, 1, 1, 1), (1, 5, 1, 1, 2), (1, 7, 0, 1, 2),
            (3, 5, 0, 0, 1), (3, 7, 1, 0, 1), (5, 7, 0, 1, 1), (5, 7, 1, 1, 1),
        )

    def test_many(self):
        rng = random.Random(43)
        for _ in range(40):
            a_state, _ = tick(random_state(rng, 7), ())
            self.assertEqual(contacts(a_state), tuple(self.plain_contacts(a_state[0])))

    def plain_contacts(self, bodies):
        for at, one in enumerate(bodies):
            for other in bodies[at + 1:]:
                for axis in (0, 1):
                    gaps = [plain_gap(one[1:3], other[1:3], k) for k in (axis, 1 - axis)]
                    if (one[3] or other[3]) and gaps[0] == 0 and gaps[1] <= 0:
                        ends = [low_high(a_body[1:3], 1 - axis) for a_body in (one, other)]
                        low, high = max(low for low, _ in ends), min(high for _, high in ends)
                        yield (one[0], other[0], axis, fr(low), fr(high))

    def test_errors(self):
        self.check_state_errors(contacts)
