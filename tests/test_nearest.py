"""Points 602 and 603: the nearest point."""

import itertools
import random
import unittest
from fractions import Fraction

from helpers import fr, number
from steadybodies.errors import RowError, TooLarge
from steadybodies.nearest import nearest
from steadybodies.systems import solve
from tasks import factors_of, line, point, possible_task, random_task, scaled_line, total


class NearestCase(unittest.TestCase):
    def check_outcome(self, weights, wishes, lines):
        """Point 603: all lines hold, and the forces are such as it says, which only the nearest point has."""
        found, forces = nearest(weights, wishes, lines)
        self.assertEqual(len(found), len(weights))
        place = [number(entry) for entry in found]
        self.assertEqual(found, point(*place))
        rows = [factors_of(a_line, len(weights)) for a_line in lines]
        for row, a_line in zip(rows, lines):
            self.assertGreaterEqual(total(row, place), number(a_line[1]))
        self.assertEqual(list(forces), sorted(dict(forces).items()))
        pushed = [Fraction(0)] * len(weights)
        for index, amount in forces:
            self.assertEqual(amount, fr(number(amount)))
            self.assertGreater(amount[0], 0)
            self.assertEqual(total(rows[index], place), number(lines[index][1]))
            pushed = [sum_so_far + number(amount) * factor for sum_so_far, factor in zip(pushed, rows[index])]
        for weight, wish, entry, push in zip(weights, wishes, place, pushed):
            self.assertEqual(weight * (entry - number(wish)), push)
        return found, forces

    def check(self, weights, wishes, lines, expected):
        found, _ = self.check_outcome(weights, point(*wishes), tuple(lines))
        self.assertEqual(found, point(*expected))

    def check_none(self, weights, wishes, lines):
        with self.assertRaises(RowError):
            nearest(weights, point(*wishes), tuple(lines))


class SmallTest(NearestCase):
    def test_the_example_of_the_document(self):
        found = nearest((1, 2), ((3, 1), (0, 1)), ((((0, (-1, 1)), (1, (1, 1))), (0, 1)),))
        self.assertEqual(found, (((1, 1), (1, 1)), ((0, (2, 1)),)))

    def test_no_coordinate(self):
        self.assertEqual(nearest((), (), ()), ((), ()))
        self.assertEqual(nearest((), (), (line([], 0), line([], -1))), ((), ()))
        self.check_none((), (), [line([], 1)])

    def test_no_line(self):
        self.assertEqual(nearest((3, 1), point("1/2", -4), ()), (point("1/2", -4), ()))

    def test_lines_without_parts(self):
        self.assertEqual(nearest((3,), point(2), (line([], 0), line([], "-1/2"))), (point(2), ()))
        self.check([1], [0], [line([], 0), line([(0, 1)], 5), line([], -9)], [5])
        self.check_none((1,), (0,), [line([], "1/9")])
        self.check_none((1,), (0,), [line([(0, 1)], 5), line([], "1/9")])

    def test_lines_that_hold_already(self):
        for bound in (-1, 2):
            self.assertEqual(nearest((1,), point(2), (line([(0, 1)], bound),)), (point(2), ()))

    def test_one_line(self):
        self.assertEqual(nearest((3,), point(2), (line([(0, 2)], 5),)), (point("5/2"), ((0, fr("3/4")),)))
        self.assertEqual(nearest((3,), point(2), (line([(0, -2)], 5),)), (point("-5/2"), ((0, fr("27/4")),)))
        self.assertEqual(nearest((2,), point(0), (line([(0, "1/3")], "1/2"),)), (point("3/2"), ((0, fr(9)),)))

    def test_weights_and_factors(self):
        self.check([1, 3], [0, 0], [line([(0, 1), (1, 1)], 4)], [3, 1])
        self.check([1, 3], [0, 0], [line([(0, 1), (1, -1)], 4)], [3, -1])
        self.check([1, 1], [0, 0], [line([(0, 1), (1, 3)], 10)], [1, 3])
        self.check([2, 5, 1], ["1/2", 1, 0], [line([(0, 1), (2, "-1/2")], 1)], ["5/6", 1, "-1/3"])

    def test_repeated_lines(self):
        self.check([1, 3], [0, 0], [line([(0, 1), (1, 1)], 4)] * 3, [3, 1])
        self.check([1, 3], [0, 0], [line([(0, 1), (1, 1)], 4), line([(0, 2), (1, 2)], 8)], [3, 1])
        self.check([1, 3], [0, 0], [line([(0, 1), (1, 1)], 2), line([(0, "1/2"), (1, "1/2")], 2)], [3, 1])

    def test_opposite_lines(self):
        self.check([1, 3], [0, 0], [line([(0, 1), (1, 1)], 4), line([(0, -1), (1, -1)], -4)], [3, 1])
        self.check([1, 3], [9, 9], [line([(0, 1), (1, 1)], 4), line([(0, -1), (1, -1)], -4)], ["-3/2", "11/2"])
        self.check([1], [0], [line([(0, 1)], 2), line([(0, -1)], -3)], [2])
        self.check([1], [7], [line([(0, 1)], 2), line([(0, -1)], -3)], [3])

    def test_opposite_lines_that_leave_no_point(self):
        self.check_none([1], [0], [line([(0, 1)], 2), line([(0, -1)], -1)])
        self.check_none([1], [9], [line([(0, 1)], 2), line([(0, -3)], -5)])
        self.check_none([1, 1], [0, 0], [line([(0, 1), (1, 1)], 2), line([(0, -2), (1, -2)], "-7/2")])

    def test_redundant_lines(self):
        lines = [line([(0, 1)], 1), line([(1, 1)], 1), line([(0, 1), (1, 1)], 2), line([(0, 1), (1, 1)], -5)]
        for order in itertools.permutations(lines):
            self.check([1, 2], [0, 0], order, [1, 1])

    def test_several_tight_lines_at_one_point(self):
        lines = [line([(0, 1), (1, factor)], 2 + factor) for factor in (-3, -1, 1, 2, 4)]
        for order in itertools.permutations(lines):
            self.check([1, 1], [-9, 0], order, [2, 1])

    def test_no_point_by_three_lines(self):
        lines = [line([(0, 1), (1, -1)], 1), line([(1, 1), (2, -1)], 1), line([(0, -1), (2, 1)], -1)]
        for order in itertools.permutations(lines):
            self.check_none([1, 2, 3], [0, 0, 0], order)

    def test_a_line_that_falls_out_again(self):
        lines = [line([(0, 1), (1, 1)], 3), line([(0, 1), (1, 10)], 30)]
        self.check([1, 1], [0, 0], lines, ["30/101", "300/101"])
        lines = [line([(0, 1)], 1), line([(0, 1), (1, 1)], 9), line([(0, -1), (1, 4)], 30)]
        for order in itertools.permutations(lines):
            self.check_outcome((1, 1), point(0, 0), tuple(order))

    def test_what_it_is_given_stays_as_it_is(self):
        weights, wishes, lines = (1, 2), point(3, 0), (line([(0, -1), (1, 1)], 0),)
        copies = (tuple(weights), tuple(wishes), tuple(lines))
        nearest(weights, wishes, lines)
        self.assertEqual((weights, wishes, lines), copies)


class ManyTest(NearestCase):
    def test_against_all_choices_of_tight_lines(self):
        rng = random.Random(16)
        outcomes = []
        for _ in range(700):
            weights, wishes, lines = random_task(rng, rng.randint(0, 4), rng.randint(0, 7), 3)
            expected = plain_nearest(weights, wishes, lines)
            outcomes.append(expected is None)
            if expected is None:
                self.check_none(weights, [number(wish) for wish in wishes], lines)
            else:
                self.assertEqual(self.check_outcome(weights, wishes, lines)[0], expected)
        self.assertTrue(100 < sum(outcomes) < 600)

    def test_with_more_coordinates(self):
        rng = random.Random(17)
        for count in [5, 8, 12, 20] * 5:
            weights, wishes, lines = possible_task(rng, count, 3 * count, rng.choice([2, 3, count]))
            self.check_outcome(weights, wishes, lines)

    def test_the_order_of_the_lines_and_their_scale_have_no_effect_on_the_point(self):
        rng = random.Random(18)
        for _ in range(20):
            weights, wishes, lines = possible_task(rng, 6, 15, 3)
            expected = nearest(weights, wishes, lines)[0]
            scaled = [scaled_line(a_line, Fraction(rng.randint(1, 9), rng.randint(1, 9))) for a_line in lines]
            rng.shuffle(scaled)
            self.assertEqual(nearest(weights, wishes, tuple(scaled))[0], expected)

    def test_chains_that_push_each_other(self):
        count = 30
        lines = [line([(k, -1), (k + 1, 1)], 0) for k in range(count - 1)]
        wishes = [count - k for k in range(count)]
        self.check([1] * count, wishes, lines, [Fraction(count + 1, 2)] * count)

    def test_great_weights_and_long_numbers(self):
        rng = random.Random(19)
        weights = tuple(rng.randint(1, 1000) for _ in range(12))
        wishes = point(*[Fraction(rng.randint(-10 ** 40, 10 ** 40), rng.randint(1, 10 ** 40)) for _ in range(12)])
        lines = tuple(line([(k, -1), (k + 1, 1)], 0) for k in range(11))
        self.check_outcome(weights, wishes, lines)


class ArgumentsTest(NearestCase):
    GOOD = line([(0, 1)], 0)

    def check_error(self, error, weights, wishes, lines):
        with self.assertRaises(error):
            nearest(tuple(weights), tuple(wishes), tuple(lines))

    def test_60_coordinates_and_1000_lines(self):
        lines = [line([(k % 60, 1)], k // 60) for k in range(1000)]
        found, forces = self.check_outcome((7,) * 60, point(*[0] * 60), tuple(lines))
        self.assertEqual(found, point(*[16] * 40 + [15] * 20))
        self.assertEqual(len(forces), 60)

    def test_61_coordinates(self):
        self.check_error(TooLarge, [1] * 61, point(*[0] * 61), [])

    def test_1001_lines(self):
        self.check_error(TooLarge, [1], point(0), [self.GOOD] * 1001)

    def test_too_large_comes_first(self):
        self.check_error(TooLarge, [0] * 61, point(*[0] * 61), [])
        self.check_error(TooLarge, [1] * 61, point(*[0] * 60), [])
        self.check_error(TooLarge, [1] * 61, point(*[0] * 61), [line([(99, 0)], 0)])
        self.check_error(TooLarge, [1], point(0, 0), [self.GOOD] * 1001)
        self.check_error(TooLarge, [0], point(0), [line([(5, 1)], 0)] * 1001)
        self.check_error(TooLarge, [1], point(0), [line([], 1)] * 1001)

    def test_different_lengths(self):
        self.check_error(RowError, [1, 1], point(0), [])
        self.check_error(RowError, [1], point(0, 0), [])
        self.check_error(RowError, [], point(0), [])
        self.check_error(RowError, [1], [], [])

    def test_weights(self):
        for weights in ([0, 1], [1, 0], [-1, 1], [1, -7]):
            self.check_error(RowError, weights, point(0, 0), [])

    def test_coordinates_that_are_none(self):
        for parts in ([(2, 1)], [(-1, 1)], [(0, 1), (2, 1)], [(-1, 1), (0, 1)], [(99, 1)]):
            self.check_error(RowError, [1, 1], point(0, 0), [line(parts, -9)])
            self.check_error(RowError, [1, 1], point(0, 0), [self.GOOD, line(parts, -9)])
        self.check_error(RowError, [], [], [line([(0, 1)], -9)])

    def test_factors_of_zero(self):
        for parts in ([(0, 0)], [(0, 1), (1, 0)], [(0, 0), (1, 1)]):
            self.check_error(RowError, [1, 1], point(0, 0), [line(parts, -9)])

    def test_coordinates_that_do_not_ascend(self):
        for parts in ([(1, 1), (0, 1)], [(0, 1), (0, 1)], [(1, 1), (1, -1)], [(0, 1), (2, 1), (1, 1)]):
            self.check_error(RowError, [1, 1, 1], point(0, 0, 0), [line(parts, -9)])


def plain_nearest(weights, wishes, lines):
    """The nearest point, or None, by a look at all choices of lines that may be the ones with a force."""
    count = len(weights)
    rows = [factors_of(a_line, count) for a_line in lines]
    for size in range(count + 1):
        for chosen in itertools.combinations(range(len(lines)), size):
            place = held_place(weights, wishes, [rows[k] for k in chosen], [number(lines[k][1]) for k in chosen])
            if place is not None and all(
                total(row, place) >= number(a_line[1]) for row, a_line in zip(rows, lines)
            ):
                return point(*place)
    return None


def held_place(weights, wishes, rows, bounds):
    """The place with these rows tight, or None if it is not the only one or a force would have to draw."""
    wished = [number(wish) for wish in wishes]
    matrix = tuple(
        tuple(fr(sum((a * b / weight for a, b, weight in zip(row, other, weights)), Fraction(0))) for other in rows)
        for row in rows
    )
    right = point(*[bound - total(row, wished) for row, bound in zip(rows, bounds)])
    amounts = solve(matrix, right)
    if amounts is None or any(amount[0] < 0 for amount in amounts):
        return None
    place = list(wished)
    for row, amount in zip(rows, amounts):
        place = [entry + number(amount) * factor / weight for entry, factor, weight in zip(place, row, weights)]
    return place
