"""Point 1101: forecasts."""

import random

from helpers import StateCase, body, fr, joint, number, plain_free, push, random_pushes, random_state, state
from steadybodies.forecasts import forecast
from steadybodies.sweeps import first_contact

PULL = (0, -1)


class ForecastTest(StateCase):
    def check(self, a_state, *expected, pushes=()):
        self.assertEqual(forecast(a_state, pushes), tuple((fr(moment), i, j) for moment, i, j in expected))

    def test_no_bodies(self):
        self.check(state([]))
        self.check(state([body(1, 0, 0, speed=(9, 9))]))

    def test_two_bodies_that_would_overlap(self):
        self.check(state([body(1, 0, 0, speed=(2, 0)), body(2, 2, 0)]), ("1/2", 1, 2))
        self.check(state([body(1, 2, 0), body(2, 0, 0, speed=(2, 0))]), ("1/2", 1, 2))
        self.check(state([body(1, 0, 0, speed=(1, 1)), body(2, 3, 0, speed=(-2, 1))]), ("2/3", 1, 2))
        self.check(state([body(1, 0, 0, speed=(9, 0)), body(2, 2, 0)]), ("1/9", 1, 2))

    def test_touching_bodies(self):
        self.check(state([body(1, 0, 0, speed=(1, 0)), body(2, 1, 0)]), (0, 1, 2))
        self.check(state([body(1, 0, 0), body(2, 1, 0)]))
        self.check(state([body(1, 0, 0, speed=(-1, 0)), body(2, 1, 0)]))
        self.check(state([body(1, 0, 0, speed=(0, 1)), body(2, 1, 0)]))

    def test_only_touching_on_the_way(self):
        self.check(state([body(1, 0, 0, speed=(1, 0)), body(2, 2, 0)]))
        self.check(state([body(1, 0, 0, speed=(9, 0)), body(2, 2, 1)]))
        self.check(state([body(1, 0, 0, speed=(4, 4)), body(2, 2, 1, 1, "1/2"), body(3, 1, 2, "1/2", 1)]), *[
            ("1/4", 1, 2), ("1/4", 1, 3),
        ])

    def test_never_meeting(self):
        self.check(state([body(1, 0, 0, speed=(1, 0)), body(2, 5, 0, speed=(1, 0)), body(3, 0, 5, mass=0)]))

    def test_pull_and_pushes_count(self):
        a_state = state([body(0, -9, -1, 18, 1, 0), body(3, 0, 0, mass=2), body(4, 2, "1/2")], pull=PULL)
        self.check(a_state, (0, 0, 3), ("1/2", 0, 4))
        self.check(a_state, ("1/2", 0, 4), pushes=(push(3, 0, 2),))
        self.check(a_state, ("1/3", 3, 4), ("1/2", 0, 4), pushes=(push(3, 6, 2),))

    def test_joints_do_not_count(self):
        a_state = state([body(1, 0, 0, speed=(2, 0)), body(2, 2, 0)], [joint(1, 2, 0, 2, 2)])
        self.check(a_state, ("1/2", 1, 2))

    def test_two_fixed_bodies(self):
        self.check(state([body(1, 0, 0, mass=0), body(2, 1, 0, mass=0), body(3, 9, 9)], pull=PULL))

    def test_several_at_the_same_time(self):
        bodies = [
            body(1, 2, 0), body(2, 0, 0, speed=(2, 0)), body(3, 5, 0, speed=(2, 0)), body(4, 7, 0),
            body(6, 7, 1), body(5, 5, 1, speed=(2, 0)),
        ]
        self.check(state(sorted(bodies)), ("1/2", 1, 2), ("1/2", 3, 4), ("1/2", 5, 6))

    def test_the_order_is_by_time_as_a_number(self):
        bodies = [
            body(1, 0, 0, speed=("12/10", 0)), body(2, 2, 0), body(3, 0, 5, speed=(10, 0)), body(4, 2, 5),
            body(5, 0, 10, speed=(3, 0)), body(6, 2, 10), body(7, 0, 15, speed=(2, 0)), body(8, 2, 15),
            body(9, 0, 20, speed=(3, 0)), body(10, 3, 20),
        ]
        self.check(
            state(bodies),
            ("1/10", 3, 4), ("1/3", 5, 6), ("1/2", 7, 8), ("2/3", 9, 10), ("5/6", 1, 2),
        )

    def test_many(self):
        rng = random.Random(91)
        lengths = []
        for _ in range(60):
            a_state = random_state(rng, 7)
            pushes = random_pushes(rng, a_state)
            free = plain_free(a_state, pushes)
            expected = []
            for at, one in enumerate(a_state[0]):
                for other in a_state[0][at + 1:]:
                    moment = first_contact(one[1:3], free[one[0]], other[1:3], free[other[0]])
                    if moment is not None:
                        expected.append((number(moment), one[0], other[0]))
            self.check(a_state, *sorted(expected), pushes=pushes)
            lengths.append(len(expected))
        self.assertTrue(0 in lengths and max(lengths) > 3)

    def test_errors(self):
        self.check_push_errors(forecast)
