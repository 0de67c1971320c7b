"""Point 604: the judge of nearest points."""

import random
import unittest

from helpers import fr, number
from steadybodies.errors import RowError, TooLarge
from steadybodies.judging import check_nearest
from steadybodies.nearest import nearest
from tasks import line, point, possible_task, random_task


def force(index, amount):
    return (index, fr(amount))


class JudgeCase(unittest.TestCase):
    def check(self, expected, weights, wishes, lines, found, forces):
        self.assertIs(check_nearest(weights, wishes, tuple(lines), found, tuple(forces)), expected)


class OneTaskTest(JudgeCase):
    """Wishes (9, 0, 5), the first two kept in order by line 1, which is tight at (6, 6); the third one is free."""

    LINES = (line([(0, 1)], -7), line([(0, -1), (1, 1)], 0), line([(1, 1)], 6), line([(2, -2)], -10), line([], 0))
    FOUND = point(6, 6, 5)
    FORCES = (force(1, 6),)

    def check_this(self, expected, found, forces):
        self.check(expected, (2, 1, 3), point(9, 0, 5), self.LINES, found, forces)

    def test_what_nearest_finds(self):
        self.assertEqual(nearest((2, 1, 3), point(9, 0, 5), self.LINES), (self.FOUND, self.FORCES))
        self.check_this(True, self.FOUND, self.FORCES)

    def test_an_amount_changed_halved_or_doubled(self):
        for amount in (3, 12, 5, 7, "6001/1000", 0, -6):
            self.check_this(False, self.FOUND, [force(1, amount)])

    def test_left_out(self):
        self.check_this(False, self.FOUND, [])

    def test_moved_to_another_line(self):
        for index in (0, 2, 3, 4):
            self.check_this(False, self.FOUND, [force(index, 6)])

    def test_a_force_too_many(self):
        for extra in (force(2, 1), force(3, 1)):
            self.check_this(False, self.FOUND, [*self.FORCES, extra])

    def test_an_amount_of_zero_or_below_on_a_tight_line(self):
        for amount in (0, -1):
            for index in (2, 3, 4):
                self.check_this(False, self.FOUND, [*self.FORCES, force(index, amount)])

    def test_a_line_without_parts(self):
        self.check_this(True, self.FOUND, [*self.FORCES, force(4, 1)])

    def test_a_line_twice(self):
        self.check_this(False, self.FOUND, [force(1, 3), force(1, 3)])
        self.check_this(False, self.FOUND, [force(1, 6), force(1, 6)])

    def test_a_line_that_is_none(self):
        for index in (-1, -4, 5, 99):
            self.check_this(False, self.FOUND, [force(index, 6)])
            self.check_this(False, self.FOUND, [force(index, 0), *self.FORCES])
            self.check_this(False, self.FOUND, [*self.FORCES, force(index, 1)])

    def test_a_point_moved(self):
        places = ((6, 6, 6), (6, 7, 5), (5, 6, 5), (6, 6, "49/10"), (9, 0, 5), (5, 5, 5))
        for found in [point(*place) for place in places]:
            self.check_this(False, found, self.FORCES)
            self.check_this(False, found, [])

    def test_too_few_or_too_many_numbers(self):
        for found in ((), point(6), point(6, 6), point(6, 6, 5, 0), point(6, 6, 5, 5)):
            self.check_this(False, found, self.FORCES)
            self.check_this(False, found, [])


class SeveralLinesTest(JudgeCase):
    def test_out_of_order(self):
        lines = [line([(0, 1)], 1), line([(1, 1)], 2)]
        forces = [force(0, 1), force(1, 6)]
        self.check(True, (1, 3), point(0, 0), lines, point(1, 2), forces)
        self.check(False, (1, 3), point(0, 0), lines, point(1, 2), forces[::-1])
        self.check(False, (1, 3), point(0, 0), lines, point(1, 2), [force(0, 6), force(1, 1)])

    def test_a_line_that_is_not_tight(self):
        lines = [line([(0, 1)], 1), line([(0, 1)], 0)]
        self.check(True, (1,), point(0), lines, point(1), [force(0, 1)])
        self.check(False, (1,), point(0), lines, point(1), [force(1, 1)])
        self.check(False, (1,), point(0), lines, point(1), [force(0, "1/2"), force(1, "1/2")])

    def test_several_forces_are_possible(self):
        lines = [line([(0, 1)], 1), line([(0, 2)], 2), line([(0, -1)], -1)]
        good = [[force(0, 4)], [force(1, 2)], [force(0, 2), force(1, 1)], [force(0, 5), force(2, 1)]]
        for forces in good:
            self.check(True, (4,), point(0), lines, point(1), forces)

    def test_indexes_do_not_count_from_the_end(self):
        lines = [line([(1, 1)], -9), line([(0, 1)], 1)]
        self.check(True, (1, 1), point(0, 0), lines, point(1, 0), [force(1, 1)])
        self.check(False, (1, 1), point(0, 0), lines, point(1, 0), [force(-1, 1)])

    def test_a_force_that_draws(self):
        lines = [line([(0, 1)], 1)]
        self.check(False, (1,), point(2), lines, point(1), [force(0, -1)])
        self.check(True, (1,), point(2), lines, point(2), [])

    def test_all_lines_count(self):
        lines = [line([(0, 1)], 1), line([(0, 1)], 2)]
        self.check(False, (1,), point(0), lines, point(1), [force(0, 1)])
        self.check(True, (1,), point(0), lines, point(2), [force(1, 2)])

    def test_each_coordinate_counts(self):
        lines = [line([(0, 1), (1, 1)], 2)]
        self.check(True, (1, 1), point(0, 0), lines, point(1, 1), [force(0, 1)])
        self.check(False, (1, 1), point(0, 0), lines, point(2, 0), [force(0, 2)])
        self.check(False, (1, 1), point(0, 0), lines, point(0, 2), [force(0, 2)])
        self.check(False, (1, 2), point(0, 0), lines, point(1, 1), [force(0, 1)])

    def test_no_coordinates_and_no_lines(self):
        self.check(True, (), (), (), (), ())
        self.check(False, (), (), (), point(0), ())
        self.check(False, (), (), (), (), [force(0, 1)])
        self.check(True, (3,), point("1/2"), (), point("1/2"), ())
        self.check(False, (3,), point("1/2"), (), point("1/3"), ())

    def test_many(self):
        rng = random.Random(21)
        for _ in range(80):
            weights, wishes, lines = possible_task(rng, rng.randint(1, 6), rng.randint(1, 12), 3)
            found, forces = nearest(weights, wishes, lines)
            self.check(True, weights, wishes, lines, found, forces)
            for at, (index, amount) in enumerate(forces):
                others = forces[:at] + forces[at + 1:]
                # A line without parts may bear any amount.
                if lines[index][0]:
                    self.check(False, weights, wishes, lines, found, others)
                    for factor in (2, -1, 0):
                        changed = (force(index, number(amount) * factor),)
                        self.check(False, weights, wishes, lines, found, forces[:at] + changed + forces[at + 1:])
            for at, entry in enumerate(found):
                moved = found[:at] + (fr(number(entry) + rng.choice([1, -1])),) + found[at + 1:]
                self.check(False, weights, wishes, lines, moved, forces)


class ErrorsTest(JudgeCase):
    GOOD = line([(0, 1)], 0)

    def check_error(self, error, weights, wishes, lines):
        with self.assertRaises(error):
            check_nearest(tuple(weights), tuple(wishes), tuple(lines), (), (force(-1, -1),))

    def test_too_large_comes_first(self):
        self.check_error(TooLarge, [0] * 61, point(*[0] * 61), [])
        self.check_error(TooLarge, [1], point(0, 0), [self.GOOD] * 1001)
        self.check_error(TooLarge, [0], point(0), [line([(5, 0)], 0)] * 1001)

    def test_60_coordinates_and_1000_lines(self):
        lines = [line([(k % 60, 1)], 0) for k in range(1000)]
        self.check(True, (1,) * 60, point(*[1] * 60), lines, point(*[1] * 60), ())

    def test_lengths_weights_and_lines(self):
        self.check_error(RowError, [1, 1], point(0), [])
        self.check_error(RowError, [1], point(0, 0), [])
        self.check_error(RowError, [0], point(0), [])
        for parts in ([(1, 1)], [(-1, 1)], [(0, 0)], [(0, 1), (0, 1)]):
            self.check_error(RowError, [1], point(0), [self.GOOD, line(parts, -9)])
        self.check_error(RowError, [1, 1], point(0, 0), [line([(1, 1), (0, 1)], -9)])

    def test_no_error_where_no_point_holds_all_lines(self):
        lines = [line([(0, 1)], 1), line([(0, -1)], 0)]
        for found in (point(0), point(1), point("1/2"), ()):
            for forces in ((), [force(0, 1)], [force(0, 1), force(1, 1)]):
                self.check(False, (1,), point(0), lines, found, forces)
        self.check(False, (), (), [line([], 1)], (), ())
        rng = random.Random(22)
        seen = []
        for _ in range(200):
            weights, wishes, lines = random_task(rng, 2, 6, 2)
            try:
                found, forces = nearest(weights, wishes, lines)
            except RowError:
                seen.append(True)
                self.check(False, weights, wishes, lines, wishes, ())
            else:
                self.check(True, weights, wishes, lines, found, forces)
        self.assertTrue(20 < len(seen) < 180)
