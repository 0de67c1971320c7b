"""Point 902: walkers."""

import random

from helpers import (
    StateCase, body, box, low_high, number, plain_gap, random_box, random_fraction, random_state, state, vec,
)
from steadybodies.errors import AxisError, BoxError, OverlapError
from steadybodies.walking import walk

HOME = box(0, 0, 1, 1)


class WalkTest(StateCase):
    def check(self, bodies, wish, first, place, blocked, walker=HOME):
        self.assertEqual(walk(state(bodies), walker, vec(*wish), first), (vec(*place), blocked))

    def check_both(self, bodies, wish, place, blocked):
        for first in (0, 1):
            self.check(bodies, wish, first, place, blocked)

    def test_a_free_way(self):
        far = [body(1, 9, 9), body(2, -9, -9, mass=0)]
        for bodies in ([], far):
            for wish in ((0, 0), (3, 0), (0, 3), (-3, 0), (0, "-7/2"), (2, -4), ("-1/2", 5)):
                self.check_both(bodies, wish, wish, (False, False))

    def test_no_wish_is_never_blocked(self):
        around = [body(1, 1, 0), body(2, -1, 0), body(3, 0, 1), body(4, 0, -1)]
        self.check_both(around, (0, 0), (0, 0), (False, False))

    def test_stopped_at_once(self):
        around = [body(1, 1, 0), body(2, -1, 0), body(3, 0, 1), body(4, 0, -1)]
        for wish, blocked in (
            ((1, 0), (True, False)), ((-1, 0), (True, False)), ((0, "1/9"), (False, True)),
            ((0, -9), (False, True)), ((2, -2), (True, True)),
        ):
            self.check_both(around, wish, (0, 0), blocked)

    def test_stopped_after_some_way(self):
        around = [body(1, 3, 0), body(2, -4, 0), body(3, 0, 5), body(4, 0, "-7/2")]
        self.check_both(around, (9, 0), (2, 0), (True, False))
        self.check_both(around, (-9, 0), (-3, 0), (True, False))
        self.check_both(around, (0, 9), (0, 4), (False, True))
        self.check_both(around, (0, -9), (0, "-5/2"), (False, True))

    def test_up_to_a_body_is_not_blocked(self):
        around = [body(1, 3, 0), body(2, -4, 0), body(3, 0, 5), body(4, 0, "-7/2")]
        for wish in ((2, 0), (-3, 0), (0, 4), (0, "-5/2"), ("19/10", 0)):
            self.check_both(around, wish, wish, (False, False))

    def test_the_nearest_body_stops(self):
        in_line = [body(1, 5, 0), body(2, 3, 0), body(3, 7, 0), body(4, -3, 0), body(5, -5, 0)]
        self.check_both(in_line, (9, 0), (2, 0), (True, False))
        self.check_both(in_line, (-9, 0), (-2, 0), (True, False))

    def test_fixed_and_moving_bodies_stop_it_alike_and_stand_still(self):
        for mass in (0, 1):
            self.check_both([body(1, 3, 0, mass=mass)], (9, 0), (2, 0), (True, False))
        self.check_both([body(1, 3, 0, speed=(9, 9))], (9, 0), (2, 0), (True, False))

    def test_sliding_along_a_body(self):
        floor = [body(1, -9, -1, 18, 1, 0)]
        self.check_both(floor, (4, 0), (4, 0), (False, False))
        self.check_both(floor, (4, -1), (4, 0), (False, True))
        self.check_both(floor, (-4, -1), (-4, 0), (False, True))
        self.check([body(1, 0, 1, 5, 1), body(2, 0, -1, 5, 1)], (4, 0), 0, (4, 0), (False, False))

    def test_past_a_corner(self):
        self.check_both([body(1, 1, 1)], (3, 0), (3, 0), (False, False))
        self.check([body(1, 1, 1)], (3, 3), 0, (3, 3), (False, False))
        self.check([body(1, 1, 1)], (1, 3), 0, (1, 0), (False, True))
        self.check([body(1, 1, 1)], (1, 3), 1, (1, 3), (False, False))

    def test_the_order_of_the_axes(self):
        obstacle = [body(1, 2, 0, 1, 1)]
        self.check(obstacle, (3, 1), 0, (1, 1), (True, False))
        self.check(obstacle, (3, 1), 1, (3, 1), (False, False))
        obstacle = [body(1, 0, 2, 1, 1)]
        self.check(obstacle, (1, 3), 1, (1, 1), (False, True))
        self.check(obstacle, (1, 3), 0, (1, 3), (False, False))

    def test_stopped_on_both_axes(self):
        bodies = [body(1, 3, 0, 1, 3), body(2, 0, 4, 3, 1)]
        self.check(bodies, (9, 9), 0, (2, 3), (True, True))
        self.check(bodies, (9, 9), 1, (9, 3), (False, True))
        self.check(bodies, ("1/2", 9), 0, ("1/2", 3), (False, True))

    def test_bodies_behind_it_do_not_stop_it(self):
        around = [body(1, 1, 0), body(2, -1, 0), body(3, 0, 1), body(4, 0, -1)]
        for at, wish in enumerate([(-3, 0), (3, 0), (0, -3), (0, 3)]):
            self.check_both(around[at:at + 1], wish, wish, (False, False))
        self.check([body(1, "-1/2", 0, "1/2", 1)], (3, 0), 0, (3, 0), (False, False), box(0, 0, "1/2", 1))
        self.check([body(1, "1/2", 0, "1/2", 1)], (-3, 0), 0, (-3, 0), (False, False), box(0, 0, "1/2", 1))

    def test_other_places_and_sizes(self):
        walker = box("1/2", -2, 3, "1/3")
        self.check([body(1, 5, -3, 1, "4/3")], (4, 0), 0, (2, -2), (True, False), walker)
        self.check([body(1, 5, -3, 1, 1)], (4, 0), 0, ("9/2", -2), (False, False), walker)
        self.check([body(1, 3, 0, 1, 1)], (0, 4), 0, ("1/2", "-1/3"), (False, True), walker)

    def test_many(self):
        rng = random.Random(72)
        outcomes = {}
        while len(outcomes) < 4 or sum(outcomes.values()) < 200:
            bodies = random_state(rng, 6)[0]
            walker = random_box(rng)
            if any(max(plain_gap(walker, a_body[1:3], axis) for axis in (0, 1)) < 0 for a_body in bodies):
                continue
            wish = (random_fraction(rng, 5), random_fraction(rng, 5))
            first = rng.randint(0, 1)
            place, blocked = self.plain_walk(bodies, walker, wish, first)
            self.check(bodies, wish, first, place, blocked, walker)
            outcomes[blocked] = outcomes.get(blocked, 0) + 1

    def plain_walk(self, bodies, walker, wish, first):
        """All ends of ways at which it would touch a body are tried, and the farthest free one is taken."""
        place = [number(entry) for entry in walker[0]]
        size = [number(entry) for entry in walker[1]]
        blocked = [False, False]
        for axis in (first, 1 - first):
            sign = 1 if wish[axis] > 0 else -1
            ways = [wish[axis], 0]
            for a_body in bodies:
                low, high = low_high(a_body[1:3], axis)
                ways += [low - size[axis] - place[axis], high - place[axis]]
            ways = [way for way in ways if 0 <= way * sign <= wish[axis] * sign]
            best = max((way for way in ways if self.is_free(bodies, place, size, axis, way)), key=abs)
            blocked[axis] = best != wish[axis]
            place[axis] += best
        return tuple(place), tuple(blocked)

    def is_free(self, bodies, place, size, axis, way):
        corner = list(place)
        corner[axis] = min(place[axis], place[axis] + way)
        grown = list(size)
        grown[axis] += abs(way)
        swept = box(*corner, *grown)
        return all(max(plain_gap(swept, a_body[1:3], k) for k in (0, 1)) >= 0 for a_body in bodies)


class ErrorsTest(StateCase):
    STATE = state([body(1, 0, 0)])
    WRONG_BOX = box(0, 0, 0, 1)

    def check_error(self, error, walker, first, a_state=STATE):
        with self.assertRaises(error):
            walk(a_state, walker, vec(0, 0), first)

    def test_box_error(self):
        for width, height in ((0, 1), (1, 0), (-1, 1), (1, "-1/2")):
            self.check_error(BoxError, box(5, 5, width, height), 0)
            self.check_error(BoxError, box(5, 5, width, height), 0, state([]))

    def test_axis_error(self):
        for first in (-1, 2, 3):
            self.check_error(AxisError, box(5, 5, 1, 1), first)
            self.check_error(AxisError, box(5, 5, 1, 1), first, state([]))

    def test_overlap_error(self):
        for walker in (box(0, 0, 1, 1), box("1/2", "-1/2", 1, 1), box(-3, -3, 9, 9), box("1/3", "1/3", "1/3", "1/3")):
            self.check_error(OverlapError, walker, 0)
        self.check_error(OverlapError, HOME, 1, state([body(1, 5, 5), body(2, 0, 0, mass=0)]))

    def test_touching_is_not_overlapping(self):
        for x, y in ((1, 0), (-1, 0), (0, 1), (1, 1)):
            self.assertEqual(walk(self.STATE, box(x, y, 1, 1), vec(0, 0), 0), (vec(x, y), (False, False)))

    def test_order(self):
        self.check_error(BoxError, self.WRONG_BOX, 2)
        self.check_error(BoxError, box("1/2", "1/2", -1, 1), 0)
        self.check_error(AxisError, HOME, 2)
        self.check_error(AxisError, HOME, -1)

    def test_errors_of_the_state_come_first(self):
        self.check_state_errors(lambda a_state: walk(a_state, self.WRONG_BOX, vec(0, 0), 2))
        self.check_state_errors(lambda a_state: walk(a_state, HOME, vec(0, 0), 2))
        self.check_state_errors(lambda a_state: walk(a_state, HOME, vec(0, 0), 0))
