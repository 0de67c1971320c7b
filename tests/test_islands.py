"""Points 801 and 802: islands, and states of one island alone."""

import random

from helpers import StateCase, body, joint, number, plain_rows, plain_sum, push, random_pushes, random_state, state
from steadybodies.errors import IdError
from steadybodies.islands import alone, islands
from steadybodies.ticks import settled, tick

FLOOR = body(0, -9, -1, 99, 1, 0, "1/2")
PULL = (0, -1)


class IslandsTest(StateCase):
    def check(self, a_state, expected, pushes=()):
        self.assertEqual(islands(a_state, pushes), expected)

    def test_no_moving_bodies(self):
        self.check(state([]), ())
        self.check(state([FLOOR, body(1, 0, 0, mass=0)]), ())

    def test_bodies_alone(self):
        self.check(state([body(1, 0, 0), body(2, 5, 0), body(3, 9, 0, mass=0)]), ((1,), (2,)))

    def test_fixed_bodies_do_not_link(self):
        self.check(state([FLOOR, body(1, 0, 0), body(2, 5, 0)], pull=PULL), ((1,), (2,)))

    def test_a_stack(self):
        bodies = [FLOOR, body(1, 0, 2), body(2, 0, 0), body(3, 0, 1), body(4, 5, 0), body(5, 5, 1), body(6, 9, 9)]
        self.check(state(bodies, pull=PULL), ((1, 2, 3), (4, 5), (6,)))

    def test_linked_only_by_others(self):
        bodies = [body(1, 0, 0), body(5, 1, 0), body(3, 2, 0), body(4, 9, 0), body(2, 10, 0)]
        self.check(state(sorted(bodies)), ((1, 3, 5), (2, 4)))

    def test_several_groups_grow_together(self):
        bodies = [body(1, 0, 0), body(2, 4, 0), body(3, 1, 0), body(4, 3, 0), body(9, 2, 0)]
        self.check(state(bodies), ((1, 2, 3, 4, 9),))

    def test_linked_by_a_joint(self):
        bodies = [body(1, 0, 0), body(2, 3, 0), body(3, 6, 0)]
        self.check(state(bodies, [joint(1, 2, 0, 3, 4), joint(3, 2, 0, -4, -2)]), ((1, 2), (3,)))
        self.check(state(bodies, [joint(1, 2, 0, 2, 4)]), ((1,), (2,), (3,)))
        self.check(state(bodies, [joint(1, 3, 1, 0, 0)]), ((1, 3), (2,)))

    def test_touching_without_a_tight_row(self):
        self.check(state([body(1, 0, 0), body(2, 1, 0)]), ((1, 2),))
        self.check(state([body(1, 0, 0), body(2, 1, 0, speed=("1/9", 0))]), ((1,), (2,)))

    def test_meeting_at_the_end_of_the_tick(self):
        for speed, expected in ((1, ((1, 2),)), (2, ((1, 2),)), ("9/10", ((1,), (2,)))):
            self.check(state([body(1, 0, 0, speed=(speed, 0)), body(2, 2, 0)]), expected)

    def test_pushes_count(self):
        a_state = state([body(1, 0, 0), body(2, 1, 0)])
        self.check(a_state, ((1, 2),), (push(1, 1),))
        self.check(a_state, ((1,), (2,)), (push(1, -1),))

    def test_gripping_bodies_that_slide_are_linked_by_one_row(self):
        bodies = [body(1, 0, 0, grip=1), body(2, 1, 0, grip=1, speed=(1, 1))]
        self.check(state(bodies), ((1, 2),))
        bodies = [body(1, 0, 0, grip=1), body(2, 1, 0, grip=1, speed=(2, 1))]
        self.check(state(bodies), ((1,), (2,)))

    def test_many(self):
        rng = random.Random(51)
        sizes = []
        for _ in range(60):
            a_state = random_state(rng, rng.randint(1, 8))
            pushes = random_pushes(rng, a_state)
            found = islands(a_state, pushes)
            self.assertEqual(found, self.plain_islands(a_state, pushes))
            sizes.extend(len(island) for island in found)
        self.assertTrue(1 in sizes and 2 in sizes and max(sizes) > 3)

    def plain_islands(self, a_state, pushes):
        """Colors that spread along tight rows until nothing changes."""
        speed_of = {a_body[0]: speed for a_body, speed in zip(a_state[0], settled(a_state, pushes)[0])}
        color = {a_body[0]: a_body[0] for a_body in a_state[0] if a_body[3]}
        links = [
            [name for name, _, _ in parts]
            for _, parts, bound in plain_rows(a_state, pushes)
            if plain_sum(parts, speed_of) == number(bound)
        ]
        for _ in a_state[0]:
            for names in links:
                lowest = min(color[name] for name in names)
                color.update((name, lowest) for name in names)
        return tuple(
            tuple(name for name in color if color[name] == own) for own in sorted(set(color.values()))
        )

    def test_errors(self):
        self.check_push_errors(islands)


class AloneTest(StateCase):
    STATE = state(
        [FLOOR, body(1, 0, 0), body(2, 5, 0), body(3, 5, 1), body(6, 9, 9, mass=0)],
        [
            joint(3, 2, 1, -1, 0), joint(1, 2, 0, 0, 9), joint(0, 6, 0, 0, 99), joint(2, 6, 1, 0, 9),
            joint(1, 0, 0, -9, 0),
        ],
        PULL,
    )

    def test_one_body(self):
        bodies, joints, pull = self.STATE
        self.assertEqual(alone(self.STATE, (1,)), ((bodies[0], bodies[1], bodies[4]), (joints[2], joints[4]), pull))
        self.assertEqual(alone(self.STATE, (3,)), ((bodies[0], bodies[3], bodies[4]), (joints[2],), pull))

    def test_several_bodies_with_joints_inside_and_to_the_outside(self):
        bodies, joints, pull = self.STATE
        expected = ((bodies[0], bodies[2], bodies[3], bodies[4]), (joints[0], joints[2], joints[3]), pull)
        self.assertEqual(alone(self.STATE, (2, 3)), expected)

    def test_all_and_none(self):
        bodies, joints, pull = self.STATE
        self.assertEqual(alone(self.STATE, (1, 2, 3)), self.STATE)
        self.assertEqual(alone(self.STATE, ()), ((bodies[0], bodies[4]), (joints[2],), pull))
        self.assertEqual(alone(state([]), ()), state([]))

    def test_wrong_names(self):
        wrong = [
            (0,), (6,), (4,), (-1,), (0, 1), (1, 6), (1, 4), (1, 1), (2, 2), (2, 1), (1, 3, 2), (1, 2, 2), (3, 2),
            (99,), (1, 2, 3, 9),
        ]
        for island in wrong:
            with self.subTest(island), self.assertRaises(IdError):
                alone(self.STATE, island)

    def test_the_speeds_alone_are_those_in_the_whole_state(self):
        rng = random.Random(52)
        counts = []
        for _ in range(40):
            a_state = random_state(rng, rng.randint(2, 8))
            for _ in range(2):
                pushes = random_pushes(rng, a_state)
                whole = {a_body[0]: speed for a_body, speed in zip(a_state[0], settled(a_state, pushes)[0])}
                found = islands(a_state, pushes)
                counts.append(len(found))
                for island in found:
                    part = alone(a_state, island)
                    speeds, _ = settled(part, tuple(push for push in pushes if push[0] in island))
                    for a_body, speed in zip(part[0], speeds):
                        self.assertEqual(speed, whole[a_body[0]])
                a_state, _ = tick(a_state, pushes)
        self.assertGreater(max(counts), 2)

    def test_errors(self):
        self.check_state_errors(lambda a_state: alone(a_state, (99, 98)))
