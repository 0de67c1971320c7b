"""Point 601: systems of linear equations."""

import random
import unittest
from fractions import Fraction

from helpers import fr, number, random_fraction
from steadybodies.systems import solve


def matrix_of(rows):
    return tuple(tuple(fr(entry) for entry in row) for row in rows)


def row_of(entries):
    return tuple(fr(entry) for entry in entries)


class SolveTest(unittest.TestCase):
    def check(self, rows, right, expected):
        self.assertEqual(solve(matrix_of(rows), row_of(right)), expected and row_of(expected))

    def test_no_unknown(self):
        self.assertEqual(solve((), ()), ())

    def test_one_unknown(self):
        self.check([["2/3"]], ["1/2"], ["3/4"])
        self.check([[-2]], [6], [-3])
        self.check([[5]], [0], [0])
        self.check([[0]], [0], None)
        self.check([[0]], [1], None)

    def test_several_unknowns(self):
        self.check([[1, 1], [1, -1]], [3, 1], [2, 1])
        self.check([["1/2", "1/3"], ["1/4", "-1/5"]], [1, "1/2"], [2, 0])
        self.check([[2, 1, 1], [1, 3, 2], [1, 0, 0]], [4, 5, 6], [6, 15, -23])

    def test_a_first_factor_of_zero(self):
        self.check([[0, 1], [1, 0]], [5, "7/2"], ["7/2", 5])
        self.check([[0, 2, 1], [0, 0, 3], [4, 1, 1]], [5, 3, 12], ["9/4", 2, 1])
        self.check([[1, 1, 1], [1, 1, 2], [1, 2, 1]], [6, 9, 8], [1, 2, 3])
        self.check([[0, 0, 1], [1, 0, 0], [0, 1, 0]], [1, 2, 3], [2, 3, 1])

    def test_singular_without_a_solution(self):
        self.check([[1, 2], [2, 4]], [1, 3], None)
        self.check([[0, 0], [1, 1]], [1, 1], None)
        self.check([[0, 1], [0, 2]], [1, 1], None)
        self.check([[1, 2, 3], [4, 5, 6], [7, 8, 9]], [1, 2, 4], None)

    def test_singular_with_many_solutions(self):
        self.check([[1, 2], [2, 4]], [1, 2], None)
        self.check([[0, 0], [1, 1]], [0, 1], None)
        self.check([[0, 1], [0, 2]], [1, 2], None)
        self.check([[1, 2, 3], [4, 5, 6], [7, 8, 9]], [1, 2, 3], None)
        self.check([[0, 0], [0, 0]], [0, 0], None)

    def test_many(self):
        rng = random.Random(14)
        for count in [1, 2, 3, 4, 5, 8, 12] * 8:
            rows = [[random_fraction(rng, 3) * rng.choice([0, 1, 1]) for _ in range(count)] for _ in range(count)]
            wanted = [random_fraction(rng, 5) for _ in range(count)]
            right = [sum(a * x for a, x in zip(row, wanted)) for row in rows]
            found = solve(matrix_of(rows), row_of(right))
            if rank_of(rows) == count:
                self.assertEqual(found, row_of(wanted))
            else:
                self.assertIsNone(found)

    def test_forty_unknowns(self):
        rng = random.Random(15)
        rows = [[Fraction(rng.randint(-9, 9), rng.randint(1, 4)) for _ in range(40)] for _ in range(40)]
        right = [rng.randint(-9, 9) for _ in range(40)]
        found = [number(x) for x in solve(matrix_of(rows), row_of(right))]
        self.assertEqual([sum(a * x for a, x in zip(row, found)) for row in rows], right)


def rank_of(rows):
    rows = [list(row) for row in rows]
    rank = 0
    for column in range(len(rows)):
        chosen = next((k for k in range(rank, len(rows)) if rows[k][column]), None)
        if chosen is None:
            continue
        rows[rank], rows[chosen] = rows[chosen], rows[rank]
        for k in range(rank + 1, len(rows)):
            quotient = rows[k][column] / rows[rank][column]
            rows[k] = [a - quotient * b for a, b in zip(rows[k], rows[rank])]
        rank += 1
    return rank
