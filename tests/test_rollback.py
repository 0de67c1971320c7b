"""Points 1401 and 1402: late pushes."""

import random

from helpers import StateCase, body, joint, number, push, random_fraction, random_state, state, vec
from steadybodies.errors import PushError, TickError
from steadybodies.rollback import Rollback
from steadybodies.ticks import tick
from steadybodies.worlds import World

START = state(
    [body(0, -9, -1, 99, 1, 0, "1/2"), body(2, 0, 0, grip=1), body(5, 3, 0, mass=2), body(7, 6, 0)],
    [joint(2, 5, 0, 2, 4)],
    (0, -1),
)


def plain_states(start, told, count):
    """The states at all numbers of ticks, with pushes (tick, name, x, y) that all come in time."""
    world = World(start)
    states = [start]
    for number_of_tick in range(count):
        for at, name, x, y in told:
            if at == number_of_tick:
                world.push(name, vec(x, y))
        world.tick()
        states.append(world.state)
    return states


class RollbackCase(StateCase):
    def check(self, rollback, start, told):
        states = plain_states(start, told, rollback.number)
        self.assertEqual(rollback.state, states[-1])
        self.assertEqual([rollback.state_at(at) for at in range(rollback.number + 1)], states)

    def advanced(self, start, count):
        rollback = Rollback(start)
        for _ in range(count):
            rollback.advance()
        return rollback


class RollbackTest(RollbackCase):
    def test_at_the_beginning(self):
        rollback = Rollback(START)
        self.assertEqual((rollback.state, rollback.number, rollback.state_at(0)), (START, 0, START))

    def test_without_pushes(self):
        rollback = self.advanced(START, 3)
        self.assertEqual(rollback.number, 3)
        self.check(rollback, START, [])
        self.assertEqual(rollback.state_at(1), tick(START, ())[0])

    def test_a_push_for_the_present_tick(self):
        rollback = Rollback(START)
        rollback.push(0, 7, vec(2, 1))
        self.assertEqual((rollback.state, rollback.number), (START, 0))
        rollback.advance()
        self.assertEqual(rollback.state, tick(START, (push(7, 2, 1),))[0])
        self.assertEqual(rollback.number, 1)
        rollback.advance()
        self.check(rollback, START, [(0, 7, 2, 1)])

    def test_a_push_for_a_past_tick(self):
        for at in range(4):
            rollback = self.advanced(START, 4)
            rollback.push(at, 5, vec(-3, 5))
            self.assertEqual(rollback.number, 4)
            self.check(rollback, START, [(at, 5, -3, 5)])
            rollback.advance()
            self.check(rollback, START, [(at, 5, -3, 5)])

    def test_a_push_for_a_future_tick(self):
        rollback = Rollback(START)
        rollback.push(2, 2, vec(0, 7))
        for count in range(4):
            self.assertEqual(rollback.number, count)
            self.check(rollback, START, [(2, 2, 0, 7)])
            rollback.advance()
        self.assertNotEqual(rollback.state, plain_states(START, [], 4)[-1])

    def test_pushes_on_one_body_in_one_tick_add_up(self):
        rollback = self.advanced(START, 2)
        for x, y in ((1, 0), (2, 3), ("-1/2", 1)):
            rollback.push(1, 7, vec(x, y))
            rollback.push(3, 7, vec(x, y))
        rollback.advance()
        rollback.advance()
        self.check(rollback, START, [(1, 7, "5/2", 4), (3, 7, "5/2", 4)])

    def test_a_push_that_is_taken_back(self):
        rollback = self.advanced(START, 3)
        rollback.push(1, 7, vec(1, 9))
        rollback.push(1, 7, vec(-1, -9))
        self.check(rollback, START, [])

    def test_different_orders(self):
        told = [(0, 2, 3, 0), (0, 7, -4, 2), (1, 2, -3, 1), (3, 5, 0, 4), (1, 2, "1/2", 0)]
        rng = random.Random(141)
        for _ in range(8):
            rollback = Rollback(START)
            for at, name, x, y in rng.sample(told, len(told)):
                if rollback.number < 4 and rng.random() < 0.6:
                    rollback.advance()
                rollback.push(at, name, vec(x, y))
            while rollback.number < 5:
                rollback.advance()
            self.check(rollback, START, told)

    def test_many(self):
        rng = random.Random(142)
        for _ in range(12):
            start = random_state(rng, 4)
            moving = [a_body[0] for a_body in start[0] if a_body[3]]
            rollback, told = Rollback(start), []
            for _ in range(12):
                if moving and rng.random() < 0.6:
                    at = rng.randint(0, rollback.number + 3)
                    vector = (random_fraction(rng, 3), random_fraction(rng, 3))
                    told.append((at, rng.choice(moving), *vector))
                    rollback.push(at, told[-1][1], vec(*vector))
                else:
                    rollback.advance()
            self.check(rollback, start, told)

    def test_what_it_is_given_stays_as_it_is(self):
        rollback = self.advanced(START, 2)
        rollback.push(0, 7, vec(1, 1))
        self.assertEqual(rollback.state_at(0), START)
        self.assertEqual(START[0][3], body(7, 6, 0))

    def test_two_do_not_share_their_pushes(self):
        one, other = Rollback(START), Rollback(START)
        one.push(0, 7, vec(1, 1))
        one.advance()
        other.advance()
        self.check(other, START, [])


class LimitsTest(RollbackCase):
    LONE = state([body(0, 0, -9, mass=0), body(3, 0, 0)])

    def check_errors(self, rollback, deeds):
        before = (rollback.state, rollback.number)
        for error, deed in deeds:
            with self.assertRaises(error):
                deed(rollback)
        self.assertEqual((rollback.state, rollback.number), before)

    def push_at(self, at, name=3):
        return lambda rollback: rollback.push(at, name, vec(1, 0))

    def test_20_ticks_ahead(self):
        rollback = Rollback(self.LONE)
        rollback.push(20, 3, vec(1, 0))
        self.check_errors(rollback, [(TickError, self.push_at(at)) for at in (21, 22, 400, -1, -20, -21)])
        for _ in range(21):
            rollback.advance()
        self.assertEqual(rollback.state_at(20), self.LONE)
        self.assertEqual(rollback.state[0][1], body(3, 1, 0, speed=(1, 0)))

    def test_20_ticks_back(self):
        for count in (19, 20):
            rollback = self.advanced(self.LONE, count)
            rollback.push(0, 3, vec(1, 0))
            self.assertEqual(rollback.state[0][1], body(3, count, 0, speed=(1, 0)))
            self.check_errors(rollback, [(TickError, self.push_at(at)) for at in (-1, -2, count + 21)])
        rollback = self.advanced(self.LONE, 25)
        rollback.push(5, 3, vec(1, 0))
        self.assertEqual(rollback.state[0][1], body(3, 20, 0, speed=(1, 0)))
        self.assertEqual(rollback.state_at(5), self.LONE)
        rollback.push(45, 3, vec(1, 0))
        self.check_errors(rollback, [(TickError, self.push_at(at)) for at in (4, 0, -1, 46)])

    def test_push_error(self):
        rollback = self.advanced(self.LONE, 2)
        for name in (0, 1, 4, -1):
            self.check_errors(rollback, [(PushError, self.push_at(at, name)) for at in (0, 1, 2, 5, 22)])
            self.check_errors(rollback, [(TickError, self.push_at(at, name)) for at in (-1, 23)])
        self.check(rollback, self.LONE, [])

    def test_state_at_beside_its_bounds(self):
        rollback = self.advanced(self.LONE, 2)
        for at in (-1, -3, 3, 99):
            with self.assertRaises(TickError):
                rollback.state_at(at)
        with self.assertRaises(TickError):
            Rollback(self.LONE).state_at(1)

    def test_400_ticks(self):
        rollback = self.advanced(self.LONE, 399)
        rollback.push(400, 3, vec(1, 0))
        rollback.advance()
        self.check_errors(rollback, [(TickError, lambda it: it.advance())])
        self.assertEqual((rollback.number, rollback.state), (400, self.LONE))
        rollback.push(380, 3, vec(1, 0))
        self.assertEqual(number(rollback.state[0][1][1][0]), 20)
        self.check_errors(rollback, [(TickError, lambda it: it.advance()), (TickError, self.push_at(379))])
        self.assertEqual(rollback.state_at(380), self.LONE)

    def test_errors_of_the_state(self):
        self.check_state_errors(Rollback)
