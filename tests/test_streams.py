"""Points 2001 to 2003: states in two parts."""

import random

from helpers import StateCase, body, box, joint, push, random_box, random_pushes, random_state, state, vec
from steadybodies.errors import BodyError, BoxError, JointError, OverlapError, PushError, RowError, TooLarge
from steadybodies.states import check_state
from steadybodies.streams import merged, parted, tick_apart
from steadybodies.ticks import tick

FLOOR = body(0, -9, -1, 99, 1, 0, "1/2")
PULL = (0, -1)
REGION = box(0, 0, 3, 3)


def names_of(a_state):
    return [a_body[0] for a_body in a_state[0]]


class PartedTest(StateCase):
    def check(self, a_state, inside, outside, region=REGION):
        """The names of all bodies in both parts, and their joints by number."""
        found = parted(a_state, region)
        bodies, joints, pull = a_state
        for part, (names, numbers) in zip(found, (inside, outside)):
            own = tuple(a_body for a_body in bodies if a_body[0] in names)
            self.assertEqual(part, (own, tuple(joints[number] for number in numbers), pull))
            self.assertIsNone(check_state(part))

    def test_no_bodies(self):
        self.check(state([], [], (1, "1/2")), ([], []), ([], []))

    def test_bodies_inside_and_outside(self):
        bodies = [body(1, 1, 1), body(2, 9, 9), body(4, 5, 0), body(6, -1, -1, 9, 1)]
        self.check(state(bodies, [], PULL), ([1, 6], []), ([2, 4], []))

    def test_touching_at_an_edge_or_a_corner(self):
        for x, y in ((3, 1), (-1, 0), (0, 3), (2, -1), (3, 3), (-1, -1), (3, -1), (-1, 3)):
            self.check(state([body(1, x, y), body(2, 9, 9)]), ([1], []), ([2], []))
        for x, y in (("31/10", 1), (-2, 0), (0, "10/3"), (4, 4)):
            self.check(state([body(1, x, y), body(2, 1, 1)]), ([2], []), ([1], []))

    def test_fixed_bodies_are_in_both(self):
        bodies = [body(1, 1, 1, mass=0), body(2, 9, 9), body(3, 5, 5, mass=0), body(4, 0, 0)]
        self.check(state(bodies), ([1, 3, 4], []), ([1, 2, 3], []))
        self.check(state([bodies[0], bodies[2]]), ([1, 3], []), ([1, 3], []))

    def test_hanging_together_with_others(self):
        bodies = [body(name, 10 * name, 0) for name in range(5)]
        joints = [joint(3, 4, 0, 0, 99), joint(1, 2, 1, 0, 9), joint(2, 0, 0, -99, 0)]
        self.check(state(bodies, joints), ([0, 1, 2], [1, 2]), ([3, 4], [0]))
        linked = joints[1:] + joints[:1] + [joint(1, 4, 0, 0, 99)]
        self.check(state(bodies, linked), ([0, 1, 2, 3, 4], [0, 1, 2, 3]), ([], []))

    def test_hanging_together_by_a_fixed_body_only(self):
        bodies = [body(0, 0, 0), body(1, 10, 0, mass=0), body(2, 20, 0), body(3, 30, 0)]
        joints = [joint(0, 1, 0, 0, 99), joint(1, 2, 0, 0, 99), joint(3, 2, 0, -99, 99)]
        self.check(state(bodies, joints), ([0, 1], [0]), ([1, 2, 3], [1, 2]))
        self.check(state(bodies, joints), ([1, 2, 3], [1, 2]), ([0, 1], [0]), box(19, 0, 2, 2))

    def test_a_fixed_body_inside_takes_nothing_with_it(self):
        bodies = [body(0, 0, 0, mass=0), body(1, 10, 0), body(2, 20, 0)]
        self.check(state(bodies, [joint(0, 1, 0, 0, 99)]), ([0], []), ([0, 1, 2], [0]))

    def test_joints_between_two_fixed_bodies(self):
        bodies = [body(0, 0, 0, mass=0), body(1, 10, 0, mass=0), body(2, 1, 0), body(3, 20, 0)]
        joints = [joint(0, 2, 0, 0, 9), joint(1, 0, 0, -10, -10), joint(3, 1, 0, -99, 0)]
        self.check(state(bodies, joints), ([0, 1, 2], [0, 1]), ([0, 1, 3], [1, 2]))

    def test_errors(self):
        for width, height in ((0, 1), (1, 0), (-1, 1), (1, "-1/2")):
            for bodies in ([], [FLOOR], [body(1, 0, 0)]):
                with self.assertRaises(BoxError):
                    parted(state(bodies), box(0, 0, width, height))
            self.check_state_errors(lambda it: parted(it, box(0, 0, width, height)))


class MergedTest(StateCase):
    ONE = state([FLOOR, body(2, 0, 0), body(5, 5, 0, speed=(1, 0))], [joint(2, 5, 0, 0, 9), joint(0, 2, 1, 0, 9)], PULL)
    OTHER = state(
        [FLOOR, body(1, 9, 3), body(5, 5, 0, speed=(1, 0))], [joint(1, 5, 0, -9, 0), joint(0, 5, 1, 0, 9)], PULL,
    )

    def test_bodies_and_joints_of_both(self):
        (floor, two, five), (_, one, _) = self.ONE[0], self.OTHER[0]
        for first, second in ((self.ONE, self.OTHER), (self.OTHER, self.ONE)):
            expected = ((floor, one, two, five), first[1] + second[1], vec(*PULL))
            self.assertEqual(merged(first, second), expected)

    def test_with_itself_and_with_nothing(self):
        nothing = state([], [], PULL)
        self.assertEqual(merged(self.ONE, self.ONE), self.ONE)
        self.assertEqual(merged(self.ONE, nothing), self.ONE)
        self.assertEqual(merged(nothing, self.ONE), self.ONE)
        self.assertEqual(merged(nothing, nothing), nothing)

    def test_the_order_of_joints(self):
        joints = [joint(2, 5, 0, 0, 9), joint(2, 5, 0, 0, 8), joint(5, 2, 0, -9, 0), joint(0, 2, 1, 0, 9)]
        bodies = self.ONE[0]
        first, second, third, fourth = joints
        for mine, others, expected in (
            ([first, second], [third, fourth], [first, second, third, fourth]),
            ([second, first], [first, fourth, second, third], [second, first, fourth, third]),
            ([first, first], [first, second, second], [first, first, second, second]),
        ):
            found = merged(state(bodies, mine, PULL), state(bodies, others, PULL))
            self.assertEqual(found, state(bodies, expected, PULL))

    def test_the_two_parts_of_a_state(self):
        rng = random.Random(201)
        for _ in range(40):
            a_state = random_state(rng, 7)
            inside, outside = parted(a_state, random_box(rng, 4))
            for one, other in ((inside, outside), (outside, inside)):
                bodies, joints, pull = merged(one, other)
                self.assertEqual((bodies, pull), (a_state[0], a_state[2]))
                # Of equal joints between fixed bodies both parts have all, so none is lost.
                self.assertEqual(sorted(joints), sorted(a_state[1]))

    def check_error(self, error, one, other):
        for pair in ((one, other), (other, one)):
            with self.assertRaises(error):
                merged(*pair)

    def test_a_body_in_both_that_is_not_equal(self):
        for other in (
            body(2, 1, 0), body(2, 0, 0, 2), body(2, 0, 0, mass=3), body(2, 0, 0, grip=1), body(2, 0, 0, speed=(1, 0)),
        ):
            self.check_error(RowError, self.ONE, state([other], [], PULL))

    def test_different_pulls(self):
        for pull in ((0, 1), (1, -1), (0, 0)):
            self.check_error(RowError, self.ONE, state([], [], pull))
            self.check_error(RowError, self.ONE, state([body(3, 0, 0)], [], pull))

    def test_errors_of_the_result(self):
        self.check_error(OverlapError, self.ONE, state([body(3, "1/2", 0)], [], PULL))
        self.check_error(RowError, self.ONE, state([body(2, "1/2", 0)], [], PULL))
        low, high = [state([body(n, 2 * n, 50) for n in range(start, start + 13)], [], PULL) for start in (0, 13)]
        self.check_error(TooLarge, low, high)
        self.assertEqual(len(merged(low, state(high[0][:11], [], PULL))[0]), 24)
        joints = [joint(2, 5, 0, 0, 10 + k) for k in range(25)]
        one, other = state(self.ONE[0], joints[:12], PULL), state(self.ONE[0], joints[12:], PULL)
        self.check_error(TooLarge, one, other)

    def test_errors_of_the_states_come_first(self):
        for other in (self.ONE, state([body(2, 1, 0)], [], (5, 5))):
            self.check_state_errors(lambda a_state: merged(a_state, other))
            self.check_state_errors(lambda a_state: merged(other, a_state))
        with self.assertRaises(BodyError):
            merged(state([body(1, 0, 0, mass=-1)]), state([body(1, 0, 0), body(2, 0, 0)], [], PULL))
        with self.assertRaises(JointError):
            merged(state([body(1, 0, 0)], [joint(1, 1, 0, 0, 0)]), state([body(1, 0, 0), body(2, 0, 0)], [], PULL))


class TickApartTest(StateCase):
    def check(self, a_state, expected, pushes=(), region=REGION):
        found = tick_apart(a_state, pushes, region)
        self.assertEqual(found, (tick(a_state, pushes)[0], expected))
        self.assertIs(found[1], expected)

    def test_no_bodies(self):
        self.check(state([], [], PULL), True)
        self.check(state([FLOOR], [], PULL), True)

    def test_parts_that_do_not_hinder_each_other(self):
        bodies = [FLOOR, body(1, 0, 0, grip=1), body(2, 0, 1), body(3, 20, 0, mass=2, grip=3), body(4, 20, 1)]
        a_state = state(bodies, [joint(1, 2, 0, -1, 1), joint(0, 1, 0, 0, 20), joint(3, 4, 1, 1, 1)], PULL)
        self.check(a_state, True)
        self.check(a_state, True, (push(1, 5), push(2, -2, 3), push(3, 3), push(4, 0, 9)))

    def test_parts_that_hinder_each_other(self):
        bodies = [body(1, 2, 0, speed=(2, 0)), body(2, "7/2", 0)]
        self.check(state(bodies), False)
        bodies = [FLOOR, body(1, 2, 0, 2, 1), body(2, "7/2", 1)]
        self.check(state(bodies, [], PULL), False)
        self.check(state(bodies[:2] + [body(2, "9/2", 1)], [], PULL), True)
        self.check(state([FLOOR, body(1, 2, "3/2", 2, 1), body(2, 2, "7/2", mass=5)], [], (0, -9)), False)

    def test_pushes_that_bring_them_together(self):
        a_state = state([body(1, 0, 0), body(2, 5, 0)])
        self.check(a_state, True)
        self.check(a_state, True, (push(1, 4),))
        self.check(a_state, False, (push(1, 5),))
        self.check(a_state, True, (push(1, 5), push(2, 1)))
        self.check(a_state, False, (push(1, 2), push(2, "-5/2")))

    def test_just_touching_at_the_end(self):
        self.check(state([body(1, 2, 0, speed=(1, 0)), body(2, 4, 0)]), True)
        self.check(state([body(1, 2, 0, speed=("11/10", 0)), body(2, 4, 0)]), False)

    def test_joints_stay_as_they_were(self):
        bodies = [body(1, 0, 0), body(2, 9, 0), body(3, 20, 20, mass=0), body(4, 0, 9)]
        joints = [joint(2, 3, 0, 0, 20), joint(4, 1, 1, -9, 0), joint(1, 3, 0, 0, 99)]
        self.check(state(bodies, joints), True, (push(1, 2), push(2, -1)))
        self.assertEqual(tick_apart(state(bodies, joints), (), REGION)[0][1], tuple(joints))

    def test_all_bodies_on_one_side(self):
        a_state = state([FLOOR, body(1, 0, 0), body(2, 0, 1)], [], PULL)
        self.check(a_state, True, (push(1, 1),), box(-99, -99, 999, 999))
        self.check(a_state, True, (push(1, 1),), box(500, 500, 1, 1))

    def test_many(self):
        rng = random.Random(202)
        outcomes = {True: 0, False: 0}
        for _ in range(80):
            a_state = random_state(rng, 7)
            pushes = random_pushes(rng, a_state)
            region = random_box(rng, 4)
            found, kept = tick_apart(a_state, pushes, region)
            self.assertEqual(found, tick(a_state, pushes)[0])
            self.assertEqual(kept, self.plain_kept(a_state, pushes, region))
            outcomes[kept] += all(any(a_body[3] for a_body in part[0]) for part in parted(a_state, region))
        self.assertGreater(min(outcomes.values()), 9)

    def plain_kept(self, a_state, pushes, region):
        """As there is only one tick, the parts keep all rows if they lead to the tick of the whole state."""
        whole = tick(a_state, pushes)[0]
        later = {}
        for part in parted(a_state, region):
            own = tuple(a_push for a_push in pushes if a_push[0] in names_of(part))
            later.update((a_body[0], a_body) for a_body in tick(part, own)[0][0])
        return tuple(later[name] for name in names_of(whole)) == whole[0]

    def test_errors(self):
        flat = box(0, 0, 0, 1)
        self.check_push_errors(lambda a_state, pushes: tick_apart(a_state, pushes, flat))
        a_state = state([body(1, 0, 0)])
        for width, height in ((0, 1), (1, 0), (-1, 1), (1, "-1/2")):
            with self.assertRaises(BoxError):
                tick_apart(a_state, (push(1),), box(0, 0, width, height))
            with self.assertRaises(BoxError):
                tick_apart(state([FLOOR]), (), box(0, 0, width, height))
        with self.assertRaises(PushError):
            tick_apart(a_state, (push(2),), flat)
