"""Points 2101 and 2102: runs with papers."""

import random

from helpers import StateCase, body, fr, joint, number, push, random_pushes, random_state, state, vec
from steadybodies.errors import PushError, TickError
from steadybodies.runs import check_run, record
from steadybodies.ticks import settled, tick

START = state(
    [body(0, -9, -1, 99, 1, 0, "1/2"), body(2, 0, 0, grip=1), body(5, 3, 0, mass=2), body(7, 0, 1)],
    [joint(2, 5, 0, 2, 4)],
    (0, -1),
)
PUSHES = ((push(5, 3),), (), (push(2, -1, 1), push(7, 2)), (push(7, 0, 5),))


def after_ticks(a_state, rows_of_pushes):
    for pushes in rows_of_pushes:
        a_state, _ = tick(a_state, pushes)
    return a_state


class RunCase(StateCase):
    def check(self, a_state, rows_of_pushes):
        """The run of a state, which is what it must be and leads to the state behind ticks."""
        run = record(a_state, rows_of_pushes)
        earlier = a_state
        self.assertEqual(len(run), len(rows_of_pushes))
        for step, pushes in zip(run, rows_of_pushes):
            self.assertEqual(step, (pushes, *settled(earlier, pushes)))
            earlier, _ = tick(earlier, pushes)
        self.assertEqual(check_run(a_state, run), earlier)
        return run


class RecordTest(RunCase):
    def test_no_steps(self):
        self.assertEqual(self.check(START, ()), ())
        self.assertEqual(self.check(state([]), ()), ())

    def test_one_step(self):
        for pushes in PUSHES:
            self.check(START, (pushes,))
        self.assertEqual(self.check(state([]), ((),)), (((), (), ()),))

    def test_several_steps(self):
        self.check(START, PUSHES)
        self.check(START, PUSHES[::-1])
        self.check(START, PUSHES * 2)

    def test_many(self):
        rng = random.Random(211)
        for _ in range(20):
            a_state = random_state(rng, 6)
            self.check(a_state, tuple(random_pushes(rng, a_state) for _ in range(3)))

    def test_400_and_401_steps(self):
        a_state = state([body(3, 0, 0)])
        run = record(a_state, ((push(3, 1),),) + ((),) * 399)
        self.assertEqual(len(run), 400)
        self.assertEqual(check_run(a_state, run), state([body(3, 400, 0, speed=(1, 0))]))
        with self.assertRaises(TickError):
            record(a_state, ((),) * 401)

    def test_errors(self):
        for rows_of_pushes in ((), ((),) * 401, ((push(99),),)):
            self.check_state_errors(lambda a_state: record(a_state, rows_of_pushes))
        for wrong in ((push(0),), (push(1),), (push(5), push(2)), (push(2), push(2))):
            for rows_of_pushes in ((wrong,), ((), wrong), ((), (push(2),), wrong, ())):
                with self.assertRaises(PushError):
                    record(START, rows_of_pushes)
            with self.assertRaises(TickError):
                record(START, (wrong,) * 401)


class CheckRunTest(RunCase):
    RUN = record(START, PUSHES)

    def check_changed(self, at, step):
        self.assertIsNone(check_run(START, self.RUN[:at] + (step,) + self.RUN[at + 1:]))

    def test_a_changed_speed(self):
        for at, (pushes, speeds, forces) in enumerate(self.RUN):
            for which, (x, y) in enumerate(speeds):
                for way in ((1, 0), (0, "-1/9")):
                    other = vec(number(x) + number(fr(way[0])), number(y) + number(fr(way[1])))
                    self.check_changed(at, (pushes, speeds[:which] + (other,) + speeds[which + 1:], forces))

    def test_too_few_or_too_many_speeds(self):
        for at, (pushes, speeds, forces) in enumerate(self.RUN):
            for other in ((), speeds[:-1], speeds[1:], speeds + (vec(0, 0),)):
                self.check_changed(at, (pushes, other, forces))

    def test_a_changed_force(self):
        for at, (pushes, speeds, forces) in enumerate(self.RUN):
            for which, (name, amount) in enumerate(forces):
                before, behind = forces[:which], forces[which + 1:]
                self.check_changed(at, (pushes, speeds, before + behind))
                self.check_changed(at, (pushes, speeds, before + ((name, fr(number(amount) + 1)),) + behind))
                self.check_changed(at, (pushes, speeds, before + ((("apart", 2, 9, 0), amount),) + behind))
                self.check_changed(at, (pushes, speeds, before + ((name, amount),) * 2 + behind))

    def test_a_changed_push(self):
        for at, (_, speeds, forces) in enumerate(self.RUN):
            for pushes in ((push(2, 3, 4),), (push(5, 0, 100),), (push(2, -1, 1), push(7, 3))):
                self.check_changed(at, (pushes, speeds, forces))

    def test_pushes_that_are_not_right_for_their_state(self):
        for at, (_, speeds, forces) in enumerate(self.RUN):
            for pushes in ((push(0),), (push(1),), (push(7), push(2)), (push(2), push(2)), (push(-1),), (push(99, 1),)):
                self.check_changed(at, (pushes, speeds, forces))

    def test_a_step_left_out(self):
        self.assertEqual(check_run(START, self.RUN[:-1]), after_ticks(START, PUSHES[:-1]))
        self.assertEqual(check_run(START, self.RUN[:1]), after_ticks(START, PUSHES[:1]))
        self.assertIsNone(check_run(START, self.RUN[1:]))
        self.assertIsNone(check_run(START, self.RUN[:1] + self.RUN[2:]))

    def test_steps_exchanged_or_doubled(self):
        one, two, three, four = self.RUN
        for run in ((two, one, three, four), (one, two, four, three), (one, one, two, three), (four, three, two, one)):
            self.assertIsNone(check_run(START, run))

    def test_steps_that_may_be_exchanged(self):
        # A body at rest does the same in each tick, so its steps are told apart by nothing.
        a_state = state([START[0][0], body(2, 0, 0)], [], (0, -1))
        run = record(a_state, ((), ()))
        self.assertEqual(check_run(a_state, run[::-1]), a_state)
        self.assertEqual(check_run(a_state, run[1:]), a_state)

    def test_another_state(self):
        self.assertIsNone(check_run(state(START[0], START[1], (0, "-1/2")), self.RUN))
        self.assertIsNone(check_run(state(START[0][:3], START[1], (0, -1)), self.RUN))

    def test_what_it_accepts_leads_to_the_state_of_ticks(self):
        rng = random.Random(212)
        outcomes = {True: 0, False: 0}
        for _ in range(60):
            a_state = random_state(rng, 3)
            run = [list(step) for step in record(a_state, tuple(random_pushes(rng, a_state) for _ in range(3)))]
            other = record(a_state, tuple(random_pushes(rng, a_state) for _ in range(3)))
            at, part = rng.randint(0, 2), rng.randint(0, 2)
            run[at][part] = other[rng.randint(0, 2)][part]
            run = tuple(map(tuple, run))
            found = check_run(a_state, run)
            if found is not None:
                self.assertEqual(found, after_ticks(a_state, [pushes for pushes, _, _ in run]))
            outcomes[found is None] += 1
        self.assertGreater(min(outcomes.values()), 5)

    def test_401_steps(self):
        a_state = state([body(3, 0, 0)])
        step = ((), (vec(0, 0),), ())
        self.assertEqual(check_run(a_state, (step,) * 400), a_state)
        for steps in ((step,) * 401, (((push(9),), (), ()),) * 401):
            with self.assertRaises(TickError):
                check_run(a_state, steps)

    def test_errors_of_the_state_come_first(self):
        for run in ((), self.RUN, (self.RUN[0],) * 401):
            self.check_state_errors(lambda a_state: check_run(a_state, run))
