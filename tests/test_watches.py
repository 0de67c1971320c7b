"""Point 1102: watches."""

import random

from helpers import StateCase, body, box, push, random_box, random_pushes, random_state, state
from steadybodies.boxes import overlaps
from steadybodies.errors import BoxError, PushError, RowError
from steadybodies.ticks import tick
from steadybodies.watches import Watch
from steadybodies.zones import crossings

ZONE = box(0, 0, 2, 2)


def at(x, y, speed=(0, 0), name=4):
    return state([body(name, x, y, speed=speed)])


class OneZoneTest(StateCase):
    def check(self, states, *expected):
        """What is told of one tick after the other: for each the kinds of events, and whether 4 is inside then."""
        watch = Watch((ZONE,))
        self.assertEqual(watch.inside(0), ())
        for a_state, (kinds, inside) in zip(states, expected, strict=True):
            self.assertEqual(watch.told(a_state, ()), tuple((kind, 0, 4) for kind in kinds))
            self.assertEqual(watch.inside(0), (4,) if inside else ())

    def check_run(self, a_state, *expected):
        """The same for a state that goes on by ticks."""
        states = []
        for _ in expected:
            states.append(a_state)
            a_state, _ = tick(a_state, ())
        self.check(states, *expected)

    def test_standing_still_in_the_zone(self):
        for mass in (0, 1):
            a_state = state([body(4, "1/2", "1/2", mass=mass)])
            self.check([a_state] * 3, (["enter"], True), ([], True), ([], True))

    def test_standing_still_outside(self):
        self.check([at(5, 5)] * 2, ([], False), ([], False))

    def test_entering_staying_and_leaving(self):
        self.check_run(
            at(-3, 0, (1, 0)),
            ([], False), ([], False), (["enter"], True), ([], True), (["leave"], False), ([], False),
        )

    def test_passing_within_one_tick(self):
        self.check_run(at(-2, 0, (9, 0)), (["enter", "leave"], False), ([], False))
        self.check_run(at(-3, 0, ("5/2", 0)), (["enter"], True), (["leave"], False), ([], False))

    def test_inside_before_the_first_tick(self):
        self.check_run(at(1, 0, (3, 0)), (["enter", "leave"], False), ([], False))
        self.check_run(at(1, 0, ("1/2", 0)), (["enter"], True), (["leave"], False))

    def test_touching_only(self):
        self.check([at(-1, 0)] * 2, ([], False), ([], False))
        self.check_run(at(-2, 0, (1, 0)), ([], False), (["enter"], True))
        self.check_run(at(-2, 2, (2, 0)), ([], False), ([], False))
        self.check_run(at(1, 0, (1, 0)), (["enter", "leave"], False), ([], False))

    def test_passing_again_and_again(self):
        there, back = at(-2, 0, (9, 0)), at(7, 0, (-9, 0))
        self.check([there, back, there], *[(["enter", "leave"], False)] * 3)

    def test_no_longer_in_the_state_and_back_again(self):
        inside, gone = at("1/2", 0), state([body(9, 20, 20)])
        self.check([inside, gone, inside, state([]), gone, inside], *[
            (["enter"], True), ([], False), (["enter"], True), ([], False), ([], False), (["enter"], True),
        ])

    def test_a_body_that_was_inside_and_is_elsewhere_now(self):
        inside, far = at("1/2", 0), at(20, 20)
        self.check([inside, far, far], (["enter"], True), (["leave"], False), ([], False))
        self.check([inside, at(-2, 0, (9, 0)), far], (["enter"], True), (["leave"], False), ([], False))
        self.check([inside, at(-2, 0, (2, 0))], (["enter"], True), ([], True))

    def test_speeds_are_those_of_the_tick(self):
        wall = body(7, -1, 0, mass=0)
        watch = Watch((ZONE,))
        a_state = state([body(4, -3, 0, speed=(9, 0)), wall])
        self.assertEqual(watch.told(a_state, ()), ())
        self.assertEqual(watch.inside(0), ())
        watch = Watch((ZONE,))
        self.assertEqual(watch.told(at(-3, 0), (push(4, 4),)), (("enter", 0, 4),))
        self.assertEqual(watch.inside(0), (4,))


class SeveralZonesTest(StateCase):
    def test_the_order_of_the_events(self):
        zones = (box(0, 0, 2, 2), box(-9, -9, 30, 30), box(0, 0, 2, 2), box(50, 50, 1, 1))
        bodies = [
            body(1, -2, 0, speed=(9, 0)), body(3, 0, 1, mass=0), body(5, 4, 6), body(8, 1, 4, speed=(0, -9)),
        ]
        watch = Watch(zones)
        self.assertEqual(watch.told(state(bodies), ()), (
            ("enter", 0, 1), ("leave", 0, 1), ("enter", 0, 3), ("enter", 0, 8), ("leave", 0, 8),
            ("enter", 1, 1), ("enter", 1, 3), ("enter", 1, 5), ("enter", 1, 8),
            ("enter", 2, 1), ("leave", 2, 1), ("enter", 2, 3), ("enter", 2, 8), ("leave", 2, 8),
        ))
        self.assertEqual([watch.inside(zone) for zone in range(4)], [(3,), (1, 3, 5, 8), (3,), ()])

    def test_no_zones(self):
        watch = Watch(())
        self.assertEqual(watch.told(at(0, 0), ()), ())
        for zone in (0, -1):
            with self.assertRaises(RowError):
                watch.inside(zone)

    def test_watches_do_not_share_anything(self):
        one, other = Watch((ZONE,)), Watch((ZONE,))
        one.told(at(0, 0), ())
        self.assertEqual(other.inside(0), ())
        self.assertEqual(other.told(at(0, 0), ()), (("enter", 0, 4),))

    def test_many(self):
        rng = random.Random(92)
        kinds = []
        for _ in range(30):
            zones = tuple(random_box(rng) for _ in range(3))
            watch = Watch(zones)
            before = [()] * 3
            a_state = random_state(rng, 5)
            for _ in range(4):
                pushes = random_pushes(rng, a_state)
                events, before = self.plain_told(a_state, pushes, zones, before)
                self.assertEqual(watch.told(a_state, pushes), tuple(events))
                self.assertEqual([watch.inside(zone) for zone in range(3)], before)
                kinds.extend(kind for kind, _, _ in events)
                a_state, _ = tick(a_state, pushes)
                if rng.random() < 0.3:
                    a_state = (a_state[0][1:], (), a_state[2])
        self.assertTrue(kinds.count("enter") > 50 and kinds.count("leave") > 50)

    def plain_told(self, a_state, pushes, zones, before):
        events, after = [], []
        for index, zone in enumerate(zones):
            passing = {name for name, _, _ in crossings(a_state, pushes, zone)}
            inside = [name for name, place, size, *_ in tick(a_state, pushes)[0][0] if overlaps((place, size), zone)]
            for name in [a_body[0] for a_body in a_state[0]]:
                if name in passing and name not in before[index]:
                    events.append(("enter", index, name))
                if (name in before[index] or name in passing) and name not in inside:
                    events.append(("leave", index, name))
            after.append(tuple(inside))
        return events, after


class ErrorsTest(StateCase):
    def test_wrong_zones(self):
        for width, height in ((0, 1), (1, 0), (-1, 1), (1, "-1/2")):
            wrong = box(0, 0, width, height)
            for zones in ((wrong,), (wrong, ZONE), (ZONE, ZONE, wrong)):
                with self.assertRaises(BoxError):
                    Watch(zones)

    def test_no_such_zone(self):
        watch = Watch((ZONE, ZONE))
        for _ in range(2):
            for zone in (-1, -2, 2, 99):
                with self.assertRaises(RowError):
                    watch.inside(zone)
            watch.told(at(0, 0), ())
        self.assertEqual((watch.inside(0), watch.inside(1)), ((4,), (4,)))

    def test_errors_of_the_state_and_the_pushes(self):
        self.check_push_errors(Watch((ZONE,)).told)
        self.check_push_errors(Watch(()).told)

    def test_an_error_leaves_everything_as_it_was(self):
        watch = Watch((ZONE,))
        watch.told(at(0, 0), ())
        with self.assertRaises(PushError):
            watch.told(at(20, 20), (push(9),))
        self.assertEqual(watch.inside(0), (4,))
        self.assertEqual(watch.told(at(20, 20), ()), (("leave", 0, 4),))
