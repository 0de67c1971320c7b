"""Points 101 and 102: fractions and their texts."""

import random
import unittest
from fractions import Fraction

from helpers import fr, number
from steadybodies.errors import TextError, ZeroDenominator
from steadybodies.ratios import (
    compare, fraction, greatest, least, minus, over, plus, read_fraction, times, write_fraction,
)

LONG = 10 ** 400 + 7
EDGES = [fr(text) for text in ("0", "1", "-1", "2", "-2", "1/2", "-1/2", "2/3", "-3/2", "5/6", "7/12", "-7/12")]


def samples(seed, count):
    rng = random.Random(seed)
    for _ in range(count):
        most = rng.choice([3, 12, 10 ** 6, 10 ** 300])
        yield tuple(fr(Fraction(rng.randint(-most, most), rng.randint(1, most))) for _ in range(2))


def all_pairs():
    yield from ((a, b) for a in EDGES for b in EDGES)
    yield from samples(1, 300)


class FractionTest(unittest.TestCase):
    def test_lowest_terms_and_signs(self):
        cases = {
            (1, 2): (1, 2), (2, 4): (1, 2), (-2, 4): (-1, 2), (2, -4): (-1, 2), (-2, -4): (1, 2),
            (6, 3): (2, 1), (-6, 3): (-2, 1), (6, -3): (-2, 1), (-6, -3): (2, 1), (7, 1): (7, 1), (7, -1): (-7, 1),
            (12, 18): (2, 3), (5, 7): (5, 7),
        }
        for (numerator, denominator), result in cases.items():
            self.assertEqual(fraction(numerator, denominator), result)

    def test_zero_is_zero_over_one(self):
        for denominator in (1, 2, -1, -5, LONG, -LONG):
            self.assertEqual(fraction(0, denominator), (0, 1))

    def test_many_figures(self):
        self.assertEqual(fraction(6 * LONG, 4 * LONG), (3, 2))
        self.assertEqual(fraction(-6 * LONG, 4), (-3 * LONG, 2))
        self.assertEqual(fraction(4, -6 * LONG), (-2, 3 * LONG))
        self.assertEqual(fraction(LONG, LONG - 1), (LONG, LONG - 1))

    def test_a_denominator_of_zero(self):
        for numerator in (0, 1, -1, LONG):
            with self.assertRaises(ZeroDenominator):
                fraction(numerator, 0)


class ArithmeticTest(unittest.TestCase):
    def check(self, result, expected):
        self.assertEqual(result, fr(expected))
        self.assertIsInstance(result, tuple)

    def test_plus_and_minus(self):
        for a, b in all_pairs():
            self.check(plus(a, b), number(a) + number(b))
            self.check(minus(a, b), number(a) - number(b))

    def test_times_and_over(self):
        for a, b in all_pairs():
            self.check(times(a, b), number(a) * number(b))
            if b != (0, 1):
                self.check(over(a, b), number(a) / number(b))

    def test_the_example_of_the_document(self):
        self.assertEqual(plus((1, 2), (1, 3)), (5, 6))

    def test_what_cancels_out_is_zero_over_one(self):
        for a, _ in all_pairs():
            self.assertEqual(minus(a, a), (0, 1))
            self.assertEqual(plus(a, (-a[0], a[1])), (0, 1))
            self.assertEqual(times(a, (0, 1)), (0, 1))
            self.assertEqual(times((0, 1), a), (0, 1))

    def test_over_zero(self):
        for a in EDGES:
            with self.assertRaises(ZeroDenominator):
                over(a, (0, 1))


class OrderTest(unittest.TestCase):
    def test_compare(self):
        for a, b in all_pairs():
            expected = (number(a) > number(b)) - (number(a) < number(b))
            self.assertEqual(compare(a, b), expected)
            self.assertEqual(compare(a, a), 0)

    def test_compare_of_numbers_that_are_very_near(self):
        self.assertEqual(compare((LONG, LONG + 1), (LONG + 1, LONG + 2)), -1)
        self.assertEqual(compare((-LONG, LONG + 1), (-LONG - 1, LONG + 2)), 1)

    def test_least_and_greatest(self):
        cases = [
            ("1/2",), ("0", "0"), ("1/2", "1/3"), ("1/3", "1/2"), ("-1/2", "-1/3", "-1"), ("2", "10", "3/2"),
            ("1/2", "1/2", "1/3", "1/3"), ("-1/3", "0", "1/3"), ("5", "4", "3"), ("3", "4", "5"), ("3", "5", "4"),
            ("4", "3", "5"),
        ]
        for texts in cases:
            items = tuple(fr(text) for text in texts)
            self.assertEqual(number(least(items)), min(Fraction(text) for text in texts))
            self.assertEqual(number(greatest(items)), max(Fraction(text) for text in texts))


class TextTest(unittest.TestCase):
    def test_there_and_back(self):
        cases = {
            "0": (0, 1), "7": (7, 1), "-7": (-7, 1), "1/2": (1, 2), "-1/2": (-1, 2), "10/3": (10, 3),
            "100": (100, 1), "-3/100": (-3, 100), "1234567890/7": (1234567890, 7),
        }
        for text, value in cases.items():
            self.assertEqual(write_fraction(value), text)
            self.assertEqual(read_fraction(text), value)

    def test_there_and_back_for_many(self):
        for a, b in samples(2, 200):
            for value in (a, b):
                self.assertEqual(write_fraction(value), str(number(value)))
                self.assertEqual(read_fraction(write_fraction(value)), value)

    def test_around_powers_of_ten(self):
        for exponent in (1, 63, 64, 65, 127, 128, 129, 200):
            for step in (-1, 0, 1):
                value = 10 ** exponent + step
                self.assertEqual(write_fraction((value, 1)), str(value))
                self.assertEqual(write_fraction((-value, 1)), str(-value))
                self.assertEqual(write_fraction((1, value)), "1/" + str(value))

    def test_numbers_beyond_what_python_writes_at_once(self):
        sevens = (10 ** 6000 - 1) // 9 * 7
        self.assertEqual(write_fraction((sevens, 1)), "7" * 6000)
        self.assertEqual(write_fraction((-1, 10 ** 5000)), "-1/1" + "0" * 5000)
        self.assertEqual(write_fraction((10 ** 5000 + 1, 3)), "1" + "0" * 4999 + "1/3")

    def test_wrong_texts(self):
        wrong = [
            "", " ", "-", "/", "-/", "+", "a", "x1", "1x", "01", "00", "-01", "-0", "+1", "+0", " 1", "1 ", "- 1",
            "1/0", "0/0", "0/1", "0/2", "-0/2", "1/1", "-3/1", "2/4", "-2/4", "4/2", "10/5", "1/-2", "-1/-2", "1/+2",
            "1/02", "01/2", "1/", "/2", "-/2", "1//2", "1/2/3", "1/ 2", "1 /2", "1 / 2", "--1", "1-", "1/2-", "1_0",
            "1/1_0", "1\n", "1/2\n", "\n1", "1\n/2", "1.5", "1.0", "1e3", "0x1", "1,000", "\u0661", "\u00b2",
            "1/\u0662", "\uff11", "-\u0661", "1\t", "\u22121", "1/2\r", "1\x00", "nan", "inf", "True",
        ]
        for text in wrong:
            with self.subTest(text), self.assertRaises(TextError):
                read_fraction(text)

    def test_texts_of_1000_characters(self):
        nines = int("9" * 999)
        self.assertEqual(read_fraction("1" * 1000), (int("1" * 1000), 1))
        self.assertEqual(read_fraction("-" + "9" * 999), (-nines, 1))
        self.assertEqual(read_fraction("1/" + "9" * 998), (1, int("9" * 998)))
        self.assertEqual(read_fraction("-1/" + "9" * 997), (-1, int("9" * 997)))

    def test_texts_of_1001_characters(self):
        for text in ("1" * 1001, "-" + "9" * 1000, "1/" + "9" * 999, "-1/" + "9" * 998, "1" * 5000, "2/" + "4" * 5000):
            with self.assertRaises(TextError):
                read_fraction(text)
