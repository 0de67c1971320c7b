"""Points 1601 and 1602: fair forces and loads."""

import random
from fractions import Fraction
from itertools import combinations

from helpers import (
    StateCase, body, fr, joint, number, plain_free, plain_rows, plain_sum, push, random_pushes, random_state, state,
    vec,
)
from steadybodies.errors import BodyError, PushError, TooLarge
from steadybodies.fair import fair_forces, loads
from steadybodies.ledger import force_on
from steadybodies.states import renamed
from steadybodies.systems import solve
from steadybodies.ticks import check_forces, settled, tick

FLOOR = body(0, -99, -1, 200, 1, 0)
PULL = (0, -1)


def force(name, amount):
    return (name, fr(amount))


def squares(forces):
    return sum((number(amount) ** 2 for _, amount in forces), Fraction(0))


def tight_rows(a_state, pushes, speeds):
    speed_of = {a_body[0]: speed for a_body, speed in zip(a_state[0], speeds)}
    return [row for row in plain_rows(a_state, pushes) if plain_sum(row[1], speed_of) == number(row[2])]


def still_boxes(count, joint_count):
    """A stack with so many contacts, each with a tight row, and so many rigid joints, each with two of them."""
    bodies = [body(0, 0, 0), body(1, 3, 3)] + [body(name, 500, name) for name in range(2, count + 3)]
    return state(bodies, [joint(0, 1, k % 2, 3, 3) for k in range(joint_count)])


class FairForcesTest(StateCase):
    def check(self, a_state, expected, pushes=()):
        found = fair_forces(a_state, pushes)
        self.assertEqual(found, tuple(expected))
        self.check_speeds(a_state, pushes, settled(a_state, pushes)[0], found)

    def test_no_forces(self):
        self.check(state([]), [])
        self.check(state([FLOOR, body(1, 0, 9, speed=(1, 0))], pull=PULL), [])
        self.check(state([FLOOR, body(1, 0, 0), body(2, 1, 0)]), [])

    def test_forces_that_are_the_only_ones(self):
        a_state = state([FLOOR, body(1, 0, 0, mass=2), body(2, 0, 1, mass=3)], pull=PULL)
        self.check(a_state, [force(("apart", 0, 1, 0), 5), force(("apart", 1, 2, 0), 3)])
        self.check(a_state, [force(("apart", 0, 1, 0), 4), force(("apart", 1, 2, 0), 2)], (push(2, 0, 1),))

    def test_a_body_on_two_others(self):
        a_state = state([FLOOR, body(1, 0, 0), body(2, 2, 0), body(3, 0, 1, 3, 1, mass=4)], pull=PULL)
        self.check(a_state, [
            force(("apart", 0, 1, 0), 3), force(("apart", 0, 2, 0), 3),
            force(("apart", 1, 3, 0), 2), force(("apart", 2, 3, 0), 2),
        ])

    def test_the_heavier_support_bears_less(self):
        # x on 1 and 4 - x on 2: (x + 1)^2 + (9 - x)^2 + x^2 + (4 - x)^2 is least at x = 3.
        a_state = state([FLOOR, body(1, 0, 0), body(2, 2, 0, mass=5), body(3, 0, 1, 3, 1, mass=4)], pull=PULL)
        self.check(a_state, [
            force(("apart", 0, 1, 0), 4), force(("apart", 0, 2, 0), 6),
            force(("apart", 1, 3, 0), 3), force(("apart", 2, 3, 0), 1),
        ])

    def test_an_amount_that_would_fall_below_0_is_left_out(self):
        a_state = state([FLOOR, body(1, 0, 0), body(2, 2, 0, mass=50), body(3, 0, 1, 3, 1, mass=4)], pull=PULL)
        self.check(a_state, [
            force(("apart", 0, 1, 0), 5), force(("apart", 0, 2, 0), 50), force(("apart", 1, 3, 0), 4),
        ])

    def test_rows_that_say_the_same_share(self):
        joints = [joint(0, 1, 1, 6, 6), joint(0, 1, 1, 6, 7), joint(1, 0, 1, -9, -6)]
        a_state = state([FLOOR, body(1, 0, 5, mass=2)], joints, PULL)
        third = "2/3"
        self.check(a_state, [
            force(("joint", 0, 0, 0), third), force(("joint", 1, 0, 0), third), force(("joint", 2, 0, 1), third),
        ])

    def test_both_rows_of_a_grip_share(self):
        a_state = state([body(0, -99, -1, 200, 1, 0, "1/2"), body(3, 0, 0, mass=2, grip=1)], pull=PULL)
        self.check(a_state, [force(("apart", 0, 3, 0), 1), force(("apart", 0, 3, 1), 1)])
        self.check(a_state, [force(("apart", 0, 3, 1), "12/5")], (push(3, 2),))

    def test_the_order_is_that_of_the_rows(self):
        bodies = [FLOOR, body(4, 5, 0), body(8, 9, 0), body(9, 9, 1)]
        a_state = state(bodies, [joint(4, 8, 0, 4, 9)], PULL)
        self.check(a_state, [
            force(("apart", 0, 4, 0), 1), force(("apart", 0, 8, 0), 2), force(("apart", 8, 9, 0), 1),
            force(("joint", 0, 0, 0), 1),
        ], (push(4, 2),))

    def test_no_other_forces_have_a_lesser_sum_of_squares(self):
        rng = random.Random(161)
        shared = 0
        for _ in range(60):
            a_state = random_state(rng, rng.randint(2, 7))
            for _ in range(2):
                pushes = random_pushes(rng, a_state)
                speeds, forces = settled(a_state, pushes)
                found = fair_forces(a_state, pushes)
                self.check_speeds(a_state, pushes, speeds, found)
                self.assertIs(check_forces(a_state, pushes, speeds, found), True)
                self.assertLessEqual(squares(found), squares(forces))
                if len(tight_rows(a_state, pushes, speeds)) < 9:
                    self.assertEqual(squares(found), self.plain_least(a_state, pushes, speeds))
                shared += squares(found) < squares(forces)
                a_state, _ = tick(a_state, pushes)
        self.assertGreater(shared, 9)

    def plain_least(self, a_state, pushes, speeds):
        """The least sum of squares over all choices of rows, each with its own shortest solution."""
        rows = tight_rows(a_state, pushes, speeds)
        free = plain_free(a_state, pushes)
        needs = {}
        for (name, _, _, mass, _, _), speed in zip(a_state[0], speeds):
            for axis in (0, 1):
                needs[name, axis] = mass * (number(speed[axis]) - number(free[name][axis]))
        best = None
        for count in range(len(rows) + 1):
            for chosen in combinations(rows, count):
                amounts = self.shortest(chosen, needs)
                if amounts is not None and min(amounts, default=0) >= 0:
                    own = sum((amount ** 2 for amount in amounts), Fraction(0))
                    best = own if best is None else min(best, own)
        return best

    def shortest(self, rows, needs):
        """The shortest amounts with the needed sums: combinations of what the needs see of the rows, or None."""
        columns = [{(name, axis): number(factor) for name, axis, factor in parts} for _, parts, _ in rows]
        picked, kept = [], []
        for spot in needs:
            line = [column.get(spot, Fraction(0)) for column in columns]
            if any(line):
                if solve(self.products(picked + [line]), (fr(0),) * (len(picked) + 1)) is not None:
                    picked.append(line)
                    kept.append(needs[spot])
        worth = [number(x) for x in solve(self.products(picked), tuple(map(fr, kept)))]
        amounts = [sum((x * line[at] for x, line in zip(worth, picked)), Fraction(0)) for at in range(len(rows))]
        for spot, need in needs.items():
            if sum((amount * column.get(spot, 0) for amount, column in zip(amounts, columns)), Fraction(0)) != need:
                return None
        return amounts

    def products(self, lines):
        return tuple(tuple(fr(sum(a * b for a, b in zip(one, other))) for other in lines) for one in lines)

    def test_new_names_have_no_effect(self):
        rng = random.Random(162)
        for _ in range(25):
            a_state = random_state(rng, rng.randint(2, 7))
            old = [a_body[0] for a_body in a_state[0]]
            new = tuple(rng.sample(range(99), len(old)))
            found = fair_forces(a_state, ())
            other = fair_forces(renamed(a_state, new), ())
            self.assertEqual(sorted(amount for _, amount in found), sorted(amount for _, amount in other))
            loads_by_name = dict(loads(renamed(a_state, new), ()))
            self.assertEqual([vector for _, vector in loads(a_state, ())], [loads_by_name[name] for name in new])

    def test_60_and_61_tight_rows(self):
        for count, joint_count, error in ((20, 20, False), (12, 24, False), (21, 20, True), (13, 24, True)):
            a_state = still_boxes(count, joint_count)
            self.assertEqual(len(tight_rows(a_state, (), settled(a_state, ())[0])), count + 2 * joint_count)
            if error:
                for function in (fair_forces, loads):
                    with self.assertRaises(TooLarge):
                        function(a_state, ())
            else:
                self.check(a_state, [])
        a_state = still_boxes(12, 24)
        found = fair_forces(a_state, (push(1, 48),))
        self.assertEqual(found, tuple(force(("joint", k, 0, 1), 2) for k in range(0, 24, 2)))

    def test_errors(self):
        self.check_push_errors(fair_forces)

    def test_too_large_comes_last(self):
        bodies, joints, pull = still_boxes(13, 24)
        for pushes in ((push(99),), (push(2), push(1))):
            with self.assertRaises(PushError):
                fair_forces((bodies, joints, pull), pushes)
        with self.assertRaises(BodyError):
            fair_forces((bodies + (bodies[0],), joints, pull), ())


class LoadsTest(StateCase):
    def check(self, a_state, expected, pushes=()):
        names = [a_body[0] for a_body in a_state[0]]
        self.assertEqual(loads(a_state, pushes), tuple(zip(names, [vec(*vector) for vector in expected])))

    def test_bodies_with_nothing_on_them(self):
        self.check(state([]), [])
        self.check(state([FLOOR, body(1, 0, 9, speed=(1, 0))], pull=PULL), [(0, 0), (0, 0)])

    def test_a_stack(self):
        a_state = state([FLOOR, body(1, 0, 0, mass=2), body(2, 0, 1, mass=3), body(5, 9, 9)], pull=PULL)
        self.check(a_state, [(0, -5), (0, 2), (0, 3), (0, 0)])
        self.check(a_state, [(0, -1), (0, 1), (0, 0), (0, 0)], (push(1, 0, 1), push(2, 0, 3)))

    def test_fixed_bodies_bear_their_share(self):
        supports = [body(0, -9, -1, 10, 1, 0), body(2, 2, -1, 9, 1, 0)]
        a_state = state([supports[0], body(1, 0, 0, 3, 1, 4), supports[1], body(3, 40, 0, mass=0)], [], PULL)
        self.check(a_state, [(0, -2), (0, 4), (0, -2), (0, 0)])

    def test_joints(self):
        joints = [joint(4, 0, 1, 4, 4), joint(0, 4, 1, -4, 0)]
        a_state = state([body(0, 0, 9, mass=0), body(4, 0, 5, mass=2)], joints, PULL)
        self.check(a_state, [(0, -2), (0, 2)])

    def test_they_are_the_sums_of_the_fair_forces(self):
        rng = random.Random(163)
        for _ in range(25):
            a_state = random_state(rng, rng.randint(1, 7))
            pushes = random_pushes(rng, a_state)
            forces = fair_forces(a_state, pushes)
            expected = tuple((a_body[0], force_on(a_state, pushes, forces, a_body[0])) for a_body in a_state[0])
            self.assertEqual(loads(a_state, pushes), expected)

    def test_errors(self):
        self.check_push_errors(loads)
