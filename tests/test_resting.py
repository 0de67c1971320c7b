"""Point 803: rest."""

import random

from helpers import StateCase, body, joint, push, random_pushes, random_state, state, vec
from steadybodies.resting import at_rest, still
from steadybodies.ticks import settled, tick

FLOOR = body(0, -9, -1, 99, 1, 0, 1)
PULL = (0, -1)


class RestTest(StateCase):
    def check(self, a_state, names, rest, pushes=()):
        self.assertEqual(still(a_state, pushes), names)
        self.assertIs(at_rest(a_state, pushes), rest)

    def test_no_moving_bodies(self):
        self.check(state([]), (), True)
        self.check(state([FLOOR, body(4, 0, 0, mass=0)], pull=PULL), (), True)

    def test_a_stack_that_lies(self):
        bodies = [FLOOR, body(2, 0, 0, mass=3), body(5, "1/2", 1, mass=9), body(7, 0, 2), body(8, 9, 0)]
        self.check(state(bodies, pull=PULL), (2, 5, 7, 8), True)

    def test_a_body_that_falls(self):
        self.check(state([FLOOR, body(2, 0, 0), body(5, 0, "11/10")], pull=PULL), (2,), False)
        self.check(state([body(2, 0, 0)], pull=PULL), (), False)
        self.check(state([body(2, 0, 0)]), (2,), True)

    def test_a_stack_that_tips_over_is_none_as_bodies_do_not_turn(self):
        self.check(state([FLOOR, body(2, 0, 0), body(5, "9/10", 1)], pull=PULL), (2, 5), True)

    def test_a_body_that_moves_now_but_not_in_the_tick(self):
        a_state = state([FLOOR, body(2, 0, 0, speed=(0, -1)), body(5, 5, 0)], pull=PULL)
        self.assertEqual(settled(a_state, ())[0], (vec(0, 0),) * 3)
        self.check(a_state, (5,), False)
        self.check(state([FLOOR, body(2, 0, 0, grip=1, speed=("1/2", 0))], pull=PULL), (), False)

    def test_a_body_that_stands_now_but_moves_in_the_tick(self):
        self.check(state([FLOOR, body(2, 0, 0), body(5, 5, 0)], pull=PULL), (5,), False, (push(2, "1/9"),))

    def test_pushes_that_the_grip_holds_or_does_not_hold(self):
        a_state = state([FLOOR, body(2, 0, 0, mass=4, grip="1/2"), body(5, 0, 1, grip=0)], pull=PULL)
        # The load of both bodies is 5, and the grip holds half of it.
        for amount, names in ((0, (2, 5)), (2, (2, 5)), ("5/2", (2, 5)), ("26/10", ()), (9, ())):
            for sign in ("", "-"):
                self.check(a_state, names, names != (), (push(2, sign + str(amount)),))
        self.check(a_state, (2,), False, (push(5, "1/100"),))

    def test_pushes_that_a_joint_holds(self):
        a_state = state([FLOOR, body(2, 0, 0)], [joint(0, 2, 0, 9, 9)])
        self.check(a_state, (2,), True, (push(2, 1000),))
        self.check(a_state, (2,), True, (push(2, -1000),))
        self.check(a_state, (), False, (push(2, 1000, 1),))

    def test_opposite_pushes(self):
        a_state = state([body(2, 0, 0), body(5, 1, 0, mass=7)])
        self.check(a_state, (2, 5), True, (push(2, 3), push(5, -3)))
        self.check(a_state, (), False, (push(2, -3), push(5, 3)))
        self.check(a_state, (), False, (push(2, 3), push(5, -2)))

    def test_a_state_at_rest_stays_as_it_is(self):
        rng = random.Random(61)
        rests = []
        for _ in range(60):
            a_state = random_state(rng, rng.randint(1, 4))
            bodies = tuple(a_body[:5] + (vec(0, 0),) for a_body in a_state[0])
            a_state = (bodies, a_state[1], rng.choice([vec(0, 0), a_state[2]]))
            pushes = rng.choice([(), random_pushes(rng, a_state)])
            rests.append(at_rest(a_state, pushes))
            later = a_state
            for _ in range(3):
                later, _ = tick(later, pushes)
                self.assertIs(later == a_state, rests[-1])
        self.assertTrue(10 < sum(rests) < 50)

    def test_a_heap_comes_to_rest(self):
        bodies = [FLOOR, body(1, 0, 0, grip=1), body(2, "1/2", "3/2", grip=1), body(3, 0, 4, mass=9, grip=1)]
        a_state = state(bodies, pull=(0, "-1/4"))
        ticks = 0
        while not at_rest(a_state, ()):
            self.assertNotEqual(tick(a_state, ())[0], a_state)
            a_state, _ = tick(a_state, ())
            ticks += 1
        self.assertEqual(tick(a_state, ())[0], a_state)
        self.assertEqual(still(a_state, ()), (1, 2, 3))
        self.assertTrue(3 < ticks < 20)

    def test_errors(self):
        self.check_push_errors(still)
        self.check_push_errors(at_rest)
