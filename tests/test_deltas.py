"""Points 2301 and 2302: differences of states."""

import random

from helpers import StateCase, body, fr, joint, random_fraction, random_pushes, random_state, state, vec
from steadybodies.deltas import changed, difference
from steadybodies.errors import BodyError, IdError, JointError, OverlapError, TooLarge
from steadybodies.ticks import tick

FLOOR = body(0, -9, -1, 99, 1, 0, "1/2")
ONE = state(
    [FLOOR, body(2, 0, 0, grip=1), body(4, 3, 0, mass=2), body(5, 6, 0), body(8, 9, 0)],
    [joint(2, 4, 0, 2, 4), joint(0, 5, 1, 0, 9)],
    (0, -1),
)


def way(name, x, y, speed=(0, 0)):
    return ("way", name, vec(x, y), vec(*speed))


class DeltaCase(StateCase):
    def check(self, one, other, *items):
        self.assertEqual(difference(one, other), items)
        self.assertEqual(changed(one, items), other)
        self.check_back(one, other)

    def check_back(self, one, other):
        self.assertEqual(changed(one, difference(one, other)), other)
        self.assertEqual(changed(other, difference(other, one)), one)


class DifferenceTest(DeltaCase):
    def other(self, bodies=ONE[0], joints=ONE[1], pull=(0, -1)):
        return (tuple(bodies), tuple(joints), vec(*pull))

    def test_equal_states(self):
        for a_state in (ONE, state([])):
            self.assertEqual(difference(a_state, a_state), ())
            self.check(a_state, a_state)

    def test_gone(self):
        self.check(ONE, self.other(ONE[0][:4]), ("gone", 8))
        self.check(ONE, state([], [], (0, -1)), *[("gone", name) for name in (0, 2, 4, 5, 8)], ("joints", ()))

    def test_new_bodies(self):
        new = [body(1, 20, 0, speed=(1, 2)), body(9, 30, 0, mass=0)]
        self.check(ONE, self.other(sorted([*ONE[0], *new])), ("body", new[0]), ("body", new[1]))
        self.check(state([]), state(new), ("body", new[0]), ("body", new[1]))

    def test_more_than_place_and_speed(self):
        for new in (
            body(8, 9, 0, 2), body(8, 9, 0, 1, 2), body(8, 9, 0, mass=3), body(8, 9, 0, mass=0),
            body(8, 9, 0, grip="1/2"), body(8, 12, 0, 2), body(8, 9, 0, mass=3, speed=(1, 1)),
        ):
            self.check(ONE, self.other([*ONE[0][:4], new]), ("body", new))

    def test_place_and_speed_alone(self):
        self.check(ONE, self.other([*ONE[0][:4], body(8, 12, "1/2")]), way(8, 12, "1/2"))
        self.check(ONE, self.other([*ONE[0][:4], body(8, 9, 0, speed=(0, -1))]), way(8, 9, 0, (0, -1)))
        self.check(ONE, self.other([*ONE[0][:4], body(8, 9, 7, speed=(3, 0))]), way(8, 9, 7, (3, 0)))

    def test_a_fixed_body_elsewhere(self):
        other = self.other([body(0, -9, -2, 99, 1, 0, "1/2"), *ONE[0][1:]])
        self.check(ONE, other, way(0, -9, -2))

    def test_joints(self):
        for joints in (ONE[1][::-1], ONE[1][:1], (), ONE[1] + ONE[1], (joint(2, 4, 0, 2, 5), ONE[1][1])):
            self.check(ONE, self.other(joints=joints), ("joints", joints))

    def test_pull(self):
        for pull in ((0, 0), (1, -1), (0, "-1/2")):
            self.check(ONE, self.other(pull=pull), ("pull", vec(*pull)))

    def test_several_kinds_in_their_order(self):
        bodies = [
            FLOOR, body(1, -5, 0), body(2, 0, 3, grip=1, speed=(0, 1)), body(4, 2, 0, mass=3), body(5, 6, 1),
            body(9, 9, 9),
        ]
        expected = (
            ("gone", 8), ("body", bodies[1]), ("body", bodies[3]), ("body", bodies[5]),
            way(2, 0, 3, (0, 1)), way(5, 6, 1), ("joints", (joint(0, 5, 1, 0, 9),)), ("pull", vec(1, 1)),
        )
        self.check(ONE, self.other(bodies, ONE[1][1:], (1, 1)), *expected)

    def test_names_ascend_within_a_kind(self):
        one = state([body(name, 3 * name, 0) for name in (2, 9, 10, 100)])
        other = state([body(name, 3 * name, 1) for name in (2, 9, 10, 100)])
        self.check(one, other, *[way(name, 3 * name, 1) for name in (2, 9, 10, 100)])
        self.check(one, state([]), *[("gone", name) for name in (2, 9, 10, 100)])
        self.check(state([]), one, *[("body", a_body) for a_body in one[0]])

    def test_behind_a_tick_there_are_only_ways(self):
        rng = random.Random(231)
        for _ in range(20):
            a_state = random_state(rng, 5)
            later, _ = tick(a_state, random_pushes(rng, a_state))
            self.assertLessEqual({item[0] for item in difference(a_state, later)}, {"way"})
            self.check_back(a_state, later)

    def test_many(self):
        rng = random.Random(232)
        for _ in range(60):
            one, other = random_state(rng, rng.randint(0, 6)), random_state(rng, rng.randint(0, 6))
            self.check_back(one, other)
            kinds = [item[0] for item in difference(one, other)]
            order = ["gone", "body", "way", "joints", "pull"]
            self.assertEqual(kinds, sorted(kinds, key=order.index))
            gone = [item[1] for item in difference(one, other) if item[0] == "gone"]
            self.assertEqual(gone, sorted({a_body[0] for a_body in one[0]} - {a_body[0] for a_body in other[0]}))

    def test_errors_of_the_first_state_then_of_the_second_one(self):
        for wrong, error in self.WRONG_STATES:
            for other, _ in self.WRONG_STATES:
                with self.assertRaises(error):
                    difference(wrong, other)
            for pair in ((wrong, ONE), (ONE, wrong)):
                with self.assertRaises(error):
                    difference(*pair)


class ChangedTest(DeltaCase):
    def check_changed(self, expected, *items):
        self.assertEqual(changed(ONE, items), expected)

    def check_error(self, error, *items):
        with self.assertRaises(error):
            changed(ONE, items)

    def test_no_items(self):
        self.check_changed(ONE)
        self.assertEqual(changed(state([]), ()), state([]))

    def test_item_by_item(self):
        bodies, joints, pull = ONE
        new = body(3, 20, 0)
        self.check_changed((bodies[:2] + (new,) + bodies[2:], joints, pull), ("body", new))
        self.check_changed(ONE, ("body", new), ("gone", 3))
        raised = (bodies[:4] + (body(8, 9, 5),), joints, pull)
        self.check_changed(raised, ("gone", 8), ("body", body(8, 1, 1)), way(8, 9, 5))
        self.check_changed(ONE, way(8, 0, 0), way(8, 9, 0))
        self.check_changed((bodies, (), vec(3, 3)), ("pull", vec(1, 1)), ("joints", ()), ("pull", vec(3, 3)))
        left = (bodies[:1] + bodies[3:], joints[1:], pull)
        self.check_changed(left, ("joints", joints[1:]), ("gone", 4), ("gone", 2))

    def test_only_the_result_is_checked(self):
        bodies, joints, pull = ONE
        swapped = bodies[:3] + (body(5, 9, 0), body(8, 6, 0))
        self.check_changed((swapped, joints, pull), way(5, 9, 0), way(8, 6, 0))
        self.check_changed((bodies[:3] + bodies[4:], joints[:1], pull), ("gone", 5), ("joints", joints[:1]))

    def test_items_that_name_no_body(self):
        for name in (1, 3, 9, -1):
            self.check_error(IdError, ("gone", name))
            self.check_error(IdError, way(name, 50, 50))
            self.check_error(IdError, ("body", body(20, 0, 0)), way(name, 50, 50), ("pull", vec(0, 0)))
        self.check_error(IdError, ("gone", 8), ("gone", 8))
        self.check_error(IdError, ("gone", 8), way(8, 9, 0))
        self.check_error(IdError, way(3, 20, 0), ("body", body(3, 20, 0)))

    def test_a_result_that_check_state_refuses(self):
        self.check_error(TooLarge, *[("body", body(20 + k, 20 + k, 5)) for k in range(20)])
        self.check_error(TooLarge, ("joints", (ONE[1][0],) * 25))
        self.check_error(BodyError, ("body", body(3, 20, 0, mass=1001)))
        self.check_error(BodyError, ("body", body(-1, 20, 0)))
        self.check_error(BodyError, ("body", body(1000000000, 20, 0)))
        self.check_error(BodyError, way(0, -9, -1, (1, 0)))
        self.check_error(OverlapError, way(8, 6, 0))
        self.check_error(OverlapError, ("body", body(3, "1/2", 0)))
        self.check_error(JointError, ("gone", 4))
        self.check_error(JointError, way(4, 20, 0))
        self.check_error(JointError, ("joints", (joint(2, 8, 0, 0, 1),)))

    def test_an_unknown_name_comes_before_errors_of_the_result(self):
        self.check_error(IdError, ("body", body(3, 20, 0, mass=1001)), ("gone", 9))
        self.check_error(IdError, ("gone", 4), way(9, 0, 0))

    def test_errors_of_the_state_come_first(self):
        for items in ((), (("gone", 99),), (("joints", ()), ("pull", vec(0, 0)))):
            self.check_state_errors(lambda a_state: changed(a_state, items))

    def test_what_it_is_given_stays_as_it_is(self):
        one = state([body(1, 0, 0), body(2, 5, 0)])
        items = (("gone", 1), way(2, 3, 3))
        changed(one, items)
        self.assertEqual(one, state([body(1, 0, 0), body(2, 5, 0)]))
        self.assertEqual(items, (("gone", 1), ("way", 2, vec(3, 3), (fr(0), fr(0)))))

    def test_a_speed_of_fractions(self):
        rng = random.Random(233)
        for _ in range(10):
            speed = (random_fraction(rng, 3), random_fraction(rng, 3))
            self.check_changed((ONE[0][:4] + (body(8, 9, 0, speed=speed),),) + ONE[1:], way(8, 9, 0, speed))
