"""Names and fractions: points 0.1, 0.4, 0.5 and 1.3."""

import random
import unittest
from fractions import Fraction
from math import gcd

from tests.helpers import HUGE, NO_INTEGERS, SQUARE, raised
from wherebase.base.numbers import (
    is_fraction, is_less, is_name, lowest_of, minus, plus, times, whole_above, whole_below,
)
from wherebase.errors import InvalidNumber

NO_FRACTIONS = (
    None, True, 1, "1/2", (), (1,), (1, 2, 3), [1, 2], (2, 4), (0, 2), (0, 0), (1, 0), (1, -2), (-1, -2), (True, 2),
    (3, True), (False, 1), ("1", 2), (1, None), ((1,), 2), {}, {1: 2}, SQUARE, (HUGE, HUGE), (1, -HUGE),
)


def fraction(pair):
    return Fraction(pair[0], pair[1])


class NumbersTest(unittest.TestCase):
    def check_number(self, value, call, *args):
        error = raised(call, *args)
        self.assertIsInstance(error, InvalidNumber)
        self.assertIs(error.value, value)

    def test_is_name(self):
        for value in ("a", "z", "road", "x" * 20, "abcdefghijklmnopqrst"):
            self.assertIs(is_name(value), True)
        for value in ("", "Road", "x" * 21, "x" * 3000, "a1", "a b", "a_b", "a-b", "a\n", " a", "`", "{", "A", None, True,
                      1, ("a",), ["a"], {"a": 1}, SQUARE):
            self.assertIs(is_name(value), False)

    def test_is_fraction(self):
        for value in ((0, 1), (1, 1), (-1, 2), (3, 2), (HUGE, 2), (-2, HUGE), (HUGE + 1, HUGE)):
            self.assertIs(is_fraction(value), True)
        for value in NO_FRACTIONS:
            self.assertIs(is_fraction(value), False)

    def test_lowest_of(self):
        self.assertEqual(lowest_of(6, -4), (-3, 2))
        self.assertEqual(lowest_of(-6, -4), (3, 2))
        self.assertEqual(lowest_of(0, -7), (0, 1))
        self.assertEqual(lowest_of(10 * HUGE, 4 * HUGE), (5, 2))
        self.assertEqual(lowest_of(-1, -HUGE), (1, HUGE))

    def test_lowest_of_wrong(self):
        for value in NO_INTEGERS:
            self.check_number(value, lowest_of, value, 1)
            self.check_number(value, lowest_of, 1, value)
        self.check_number(0, lowest_of, 1, 0)
        self.check_number(None, lowest_of, None, 0)

    def test_sums_and_products(self):
        rows = random.Random(1)
        for _ in range(300):
            size = rows.choice([4, 50, 10 ** 300])
            one = lowest_of(rows.randint(-size, size), rows.randint(1, size))
            other = lowest_of(rows.randint(-size, size), rows.randint(1, size))
            for call, expected in (
                (plus, fraction(one) + fraction(other)),
                (minus, fraction(one) - fraction(other)),
                (times, fraction(one) * fraction(other)),
            ):
                found = call(one, other)
                self.assertEqual(found, (expected.numerator, expected.denominator))
                self.assertEqual(gcd(*found), 1)
            self.assertIs(is_less(one, other), fraction(one) < fraction(other))
        self.assertIs(is_less((1, 2), (1, 2)), False)

    def test_whole(self):
        rows = random.Random(2)
        for _ in range(300):
            size = rows.choice([4, 50, 10 ** 300])
            one = lowest_of(rows.randint(-size, size), rows.randint(1, size))
            low, high = whole_below(one), whole_above(one)
            self.assertTrue(low <= fraction(one) < low + 1)
            self.assertTrue(high - 1 < fraction(one) <= high)
        self.assertEqual([whole_below((-3, 2)), whole_above((-3, 2)), whole_below((-4, 1))], [-2, -1, -4])

    def test_wrong_fractions(self):
        for value in NO_FRACTIONS:
            for call in (plus, minus, times, is_less):
                self.check_number(value, call, value, (1, 2))
                self.check_number(value, call, (1, 2), value)
                self.check_number(value, call, value, "other")
            self.check_number(value, whole_below, value)
            self.check_number(value, whole_above, value)


if __name__ == "__main__":
    unittest.main()
