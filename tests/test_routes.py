"""Points 1501 to 1503: routes among bodies."""

import random
from fractions import Fraction

from helpers import (
    StateCase, body, box, fr, number, plain_gap, random_box, random_fraction, random_state, state, vec,
)
from steadybodies.errors import BoxError, OverlapError
from steadybodies.routes import check_route, length_of, route
from steadybodies.sweeps import overlap_times

HOME = box(0, 0, 1, 1)


def places(*points):
    return tuple(vec(*point) for point in points)


def is_clear(bodies, a_box):
    return all(max(plain_gap(a_box, a_body[1:3], axis) for axis in (0, 1)) >= 0 for a_body in bodies)


class RouteTest(StateCase):
    def check(self, bodies, goal, length, expected=None, walker=HOME):
        """A route of this length; the route itself is only compared where it is the only one."""
        found = route(state(bodies), walker, vec(*goal))
        if length is None:
            self.assertIsNone(found)
            return
        self.check_form(bodies, walker, vec(*goal), found)
        self.assertEqual(found[0], fr(length))
        if expected is not None:
            self.assertEqual(found[1], places(*expected))

    def check_form(self, bodies, walker, goal, found):
        length, way = found
        self.assertEqual((way[0], way[-1]), (walker[0], goal))
        for one, other in zip(way, way[1:]):
            self.assertEqual([one[0] == other[0], one[1] == other[1]].count(False), 1)
            move = vec(*[number(other[axis]) - number(one[axis]) for axis in (0, 1)])
            for a_body in bodies:
                self.assertIsNone(overlap_times((one, walker[1]), move, a_body[1:3], vec(0, 0)))
        for three in zip(way, way[1:], way[2:]):
            for axis in (0, 1):
                self.assertGreater(len({place[axis] for place in three}), 1)
        self.assertEqual(length_of(way), length)
        self.assertIs(check_route(state(bodies), walker, goal, way), True)

    def test_at_the_goal_already(self):
        for bodies in ([], [body(1, 1, 0), body(2, 0, 1)]):
            self.check(bodies, (0, 0), 0, [(0, 0)])

    def test_free_space(self):
        self.check([], (3, 0), 3, [(0, 0), (3, 0)])
        self.check([], (0, "-7/2"), "7/2", [(0, 0), (0, "-7/2")])
        self.check([], (-2, "1/3"), "7/3")
        self.check([body(1, 9, 9), body(2, -9, 0, mass=0)], (5, -4), 9)

    def test_around_one_body(self):
        for bottom in (-1, "-1/2", -2, -5):
            way = 2 * min(1 - Fraction(bottom), Fraction(bottom) + 8)
            self.check([body(1, 2, bottom, 1, 8)], (4, 0), 4 + way)
        self.check([body(1, 1, 0, 1, 9)], (2, 0), 4, [(0, 0), (0, -1), (2, -1), (2, 0)])
        self.check([body(1, 1, -9, 1, 10)], (2, 0), 4, [(0, 0), (0, 1), (2, 1), (2, 0)])
        self.check([body(1, 0, 1, 9, 1)], (0, 2), 4, [(0, 0), (-1, 0), (-1, 2), (0, 2)])

    def test_moving_bodies_stand_still_and_hinder_like_fixed_ones(self):
        for mass, speed in ((0, (0, 0)), (1, (9, 9))):
            self.check([body(1, 1, 0, 1, 9, mass=mass, speed=speed)], (2, 0), 4)

    def test_a_corner_costs_nothing(self):
        self.check([body(1, 1, 0, 3, 3)], (4, 3), 7)
        self.check([body(1, 1, 0, 9, 2)], (4, 2), 6, [(0, 0), (0, 2), (4, 2)])
        self.check([body(1, 1, 0, 9, 2), body(2, 0, 3, 2, 1)], (4, 2), 6, [(0, 0), (0, 2), (4, 2)])

    def test_around_several_bodies(self):
        maze = [body(1, 1, -1, 1, 9), body(2, 3, -9, 1, 11), body(3, 5, -1, 1, 9), body(4, 1, 8, 5, 1)]
        self.check(maze, (6, 0), 18)
        self.check(maze, (4, 0), 12)
        self.check(maze, (2, 7), 13)

    def test_a_gap_that_just_fits(self):
        for width in (1, "3/2", "1/2"):
            size = Fraction(width)
            walker = box(0, 0, size, size)
            gate = [body(1, 3, -9, 1, 9), body(2, 3, size, 1, 9)]
            self.check(gate, (9, 0), 9, [(0, 0), (9, 0)], walker)
        narrow = [body(1, 3, -9, 1, 9), body(2, 3, "9/10", 1, 9)]
        self.check(narrow, (9, 0), 9 + 2 * Fraction(99, 10))

    def test_a_turn_that_just_fits(self):
        bodies = [body(1, 0, 1, 2, 9), body(2, -9, -1, 20, 1), body(3, 3, 0, 9, 9)]
        self.check(bodies, (2, 4), 6, [(0, 0), (2, 0), (2, 4)])

    def test_none(self):
        pen = [body(1, -1, -1, 3, 1), body(2, -1, 1, 3, 1), body(3, -1, 0), body(4, 1, 0)]
        self.check(pen, (9, 9), None)
        wide = [body(1, -2, -2, 6, 1), body(2, -2, 3, 6, 1), body(3, -2, -1, 1, 4), body(4, 3, -1, 1, 4)]
        self.check(wide, (9, 9), None)
        self.check(wide, (2, 2), 4)
        self.check(wide[:3], (9, 2), 11)
        self.check(wide, (0, 0), None, None, box(9, 9, 1, 1))

    def test_fractions(self):
        walker = box("1/3", "-1/7", "2/3", "3/5")
        turn = Fraction(-2, 7) - Fraction(3, 5)
        length = Fraction(17, 6) - Fraction(1, 3) + (Fraction(-1, 7) - turn) + (Fraction(1, 7) - turn)
        self.check([body(1, "5/4", "-2/7", "1/9", "20/3")], ("17/6", "1/7"), length, None, walker)

    def test_many(self):
        rng = random.Random(151)
        outcomes = {}
        while sum(outcomes.values()) < 150 or len(outcomes) < 3:
            bodies = random_state(rng, rng.randint(3, 14))[0]
            walker, goal = random_box(rng, 5), vec(random_fraction(rng, 5), random_fraction(rng, 5))
            if not is_clear(bodies, walker) or not is_clear(bodies, (goal, walker[1])):
                continue
            expected = self.plain_length(bodies, walker, goal)
            self.check(bodies, [number(entry) for entry in goal], expected, None, walker)
            straight = number(length_of((walker[0], goal)))
            kind = "none" if expected is None else "straight" if expected == straight else "around"
            outcomes[kind] = outcomes.get(kind, 0) + 1

    def plain_length(self, bodies, walker, goal):
        """Costs of all places on the lines at which the box touches a body, made less until nothing changes."""
        spots = []
        for axis in (0, 1):
            own = {number(walker[0][axis]), number(goal[axis])}
            for a_body in bodies:
                low = number(a_body[1][axis])
                own |= {low - number(walker[1][axis]), low + number(a_body[2][axis])}
            spots.append(sorted(own))
        cost = {tuple(map(number, walker[0])): Fraction(0)}
        open_places = list(cost)
        while open_places:
            place = open_places.pop(0)
            for other in self.next_places(spots, place):
                total = cost[place] + abs(other[0] - place[0]) + abs(other[1] - place[1])
                if (other not in cost or total < cost[other]) and self.is_free(bodies, walker, place, other):
                    cost[other] = total
                    open_places.append(other)
        return cost.get(tuple(map(number, goal)))

    def next_places(self, spots, place):
        x, y = spots[0].index(place[0]), spots[1].index(place[1])
        near = [(x - 1, y), (x + 1, y), (x, y - 1), (x, y + 1)]
        return [(spots[0][a], spots[1][b]) for a, b in near if 0 <= a < len(spots[0]) and 0 <= b < len(spots[1])]

    def is_free(self, bodies, walker, place, other):
        low = [min(place[axis], other[axis]) for axis in (0, 1)]
        size = [abs(place[axis] - other[axis]) + number(walker[1][axis]) for axis in (0, 1)]
        return is_clear(bodies, box(*low, *size))


class CheckRouteTest(StateCase):
    STATE = state([body(1, 1, 0, 1, 9), body(2, 5, 5, mass=0)])
    GOAL = (2, 0)

    def check(self, expected, *points):
        self.assertIs(check_route(self.STATE, HOME, vec(*self.GOAL), places(*points)), expected)

    def test_a_told_route(self):
        _, way = route(self.STATE, HOME, vec(*self.GOAL))
        self.assertIs(check_route(self.STATE, HOME, vec(*self.GOAL), way), True)

    def test_other_routes(self):
        self.check(True, (0, 0), (0, -1), (2, -1), (2, 0))
        self.check(True, (0, 0), (0, "-1/2"), (0, -1), (1, -1), (2, -1), (2, 0))
        self.check(True, (0, 0), (0, -3), (-5, -3), (7, -3), (7, 0), (2, 0))
        self.check(True, (0, 0), (0, 9), (2, 9), (2, 0))
        self.check(True, (0, 0), (0, -1), (0, -2), (0, -1), (2, -1), (2, 0))

    def test_standing_still_is_a_move_on_no_axis(self):
        self.check(True, (0, 0), (0, 0), (0, -1), (2, -1), (2, -1), (2, 0))

    def test_moves_on_two_axes_at_once(self):
        self.check(False, (0, 0), (0, -1), (1, -2), (2, -2), (2, 0))
        self.check(False, (0, 0), (0, -3), (2, -1), (2, 0))

    def test_passes_through_a_body(self):
        self.check(False, (0, 0), (2, 0))
        self.check(False, (0, 0), (0, "-1/2"), (2, "-1/2"), (2, 0))
        self.check(False, (0, 0), (0, "17/2"), (2, "17/2"), (2, 0))
        self.check(False, (0, 0), (0, -1), (1, -1), (1, 0), (2, 0))
        self.check(False, (0, 0), (0, -1), (5, -1), (5, 9), (2, 9), (2, 0))

    def test_begins_or_ends_elsewhere(self):
        self.check(False, (0, -1), (2, -1), (2, 0))
        self.check(False, (0, 0), (0, -1), (2, -1))
        self.check(False, (0, 0), (0, -1), (2, -1), (2, 0), (3, 0))
        self.check(False, (0, 0))
        self.check(False, (2, 0))
        self.check(False, (0, 0), (0, -1), (2, -1), (2, "1/9"))

    def test_empty(self):
        self.check(False)
        self.assertIs(check_route(self.STATE, HOME, HOME[0], ()), False)

    def test_at_the_goal_already(self):
        told = (([(0, 0)], True), ([(0, 0), (0, -1), (0, 0)], True), ([(0, 0), (9, 0), (0, 0)], False))
        for points, expected in told:
            self.assertIs(check_route(self.STATE, HOME, HOME[0], places(*points)), expected)

    def test_a_goal_that_cannot_be_reached(self):
        pen = state([body(1, -1, -1, 3, 1), body(2, -1, 1, 3, 1), body(3, -1, 0), body(4, 1, 0)])
        self.assertIs(check_route(pen, HOME, vec(9, 0), places((0, 0), (9, 0))), False)


class LengthTest(StateCase):
    def check(self, expected, *points):
        self.assertEqual(length_of(places(*points)), fr(expected))

    def test_routes(self):
        self.check(0)
        self.check(0, (3, 4))
        self.check(3, (0, 0), (3, 0))
        self.check("15/2", (0, 0), (-3, 0), (-3, "1/2"), (1, "1/2"))
        self.check(8, (0, 0), (0, 4), (0, 0))

    def test_other_places(self):
        self.check(7, (0, 0), (3, -4))
        self.check("41/6", (1, 1), (1, 1), ("1/2", "4/3"), (-2, "-13/6"))


class ErrorsTest(StateCase):
    STATE = state([body(1, 0, 0), body(2, 5, 0, mass=0)])

    def check_errors(self, error, walker, goal):
        with self.assertRaises(error):
            route(self.STATE, walker, vec(*goal))
        for way in ((), (walker[0],), (walker[0], vec(*goal))):
            with self.assertRaises(error):
                check_route(self.STATE, walker, vec(*goal), way)

    def test_box_error(self):
        for width, height in ((0, 1), (1, 0), (-1, 1), (1, "-1/2")):
            self.check_errors(BoxError, box(9, 9, width, height), (8, 8))

    def test_overlap_error_at_the_beginning(self):
        for walker in (box(0, 0, 1, 1), box("1/2", "-1/2", 1, 1), box("11/2", 0, 1, 1), box(-3, -3, 9, 9)):
            self.check_errors(OverlapError, walker, (40, 40))

    def test_overlap_error_at_the_goal(self):
        for goal in ((0, 0), ("1/2", "-1/2"), ("11/2", 0)):
            self.check_errors(OverlapError, box(9, 9, 1, 1), goal)

    def test_touching_is_not_overlapping(self):
        self.assertEqual(route(self.STATE, box(1, 0, 1, 1), vec(4, 0)), (fr(3), places((1, 0), (4, 0))))

    def test_box_error_comes_first(self):
        for place in ((0, 0), ("1/2", "1/2")):
            self.check_errors(BoxError, box(*place, 3, -1), place)

    def test_errors_of_the_state_come_first(self):
        for walker in (box(0, 0, 0, 1), HOME):
            self.check_state_errors(lambda a_state: route(a_state, walker, vec(0, 0)))
            self.check_state_errors(lambda a_state: check_route(a_state, walker, vec(0, 0), ()))
