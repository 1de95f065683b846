"""Points and pieces: points 0.4, 0.5, 0.7, 2.1 and 2.2."""

import itertools
import random
import unittest
from fractions import Fraction
from math import atan2

from tests.helpers import HUGE, MAPS, NO_INTEGERS, NO_POINTS, exact, led, raised, told
from wherebase.base.points import (
    is_between, is_point, is_side, line_meet, middle_of, pieces_meet, point_of, sorted_round, square_between, turn_of,
)
from wherebase.errors import InvalidNumber, InvalidOperation, InvalidPoint

ORIGIN = (0, 0, 1)


def some_points(seed, count):
    rows = random.Random(seed)
    return [point_of(rows.randint(-6, 6), rows.randint(-6, 6), rows.choice([1, 1, 2, 3])) for _ in range(count)]


class PointsTest(unittest.TestCase):
    def test_is_point(self):
        for value in (ORIGIN, (3, -4, 1), (1, 2, 3), (2, 4, 3), (0, 1, 2), (HUGE, 0, 2), (1, 1, HUGE)):
            self.assertIs(is_point(value), True)
        for value in NO_POINTS:
            self.assertIs(is_point(value), False)

    def test_is_side(self):
        for value in ((ORIGIN, (0, 1, 1)), ((0, 0, 1), (0, 1, 2)), ((-1, 5, 7), (HUGE, 1, 1))):
            self.assertIs(is_side(value), True)
            self.assertIs(is_side((value[1], value[0])), False)
        for value in ((ORIGIN, ORIGIN), (ORIGIN,), (ORIGIN, (0, 1, 1), (0, 2, 1)), [ORIGIN, (0, 1, 1)], ORIGIN, None, True,
                      (ORIGIN, (0, 1)), ((0, 0), (0, 1)), (ORIGIN, (1, 1, True)), (ORIGIN, (2, 2, 2)), "", {}):
            self.assertIs(is_side(value), False)

    def test_point_of(self):
        self.assertEqual(point_of(3, 0), (3, 0, 1))
        self.assertEqual(point_of(2, 4, -6), (-1, -2, 3))
        self.assertEqual(point_of(0, 0, -9), ORIGIN)
        self.assertEqual(point_of(2, 3, w=4), (2, 3, 4))
        self.assertEqual(point_of(-2 * HUGE, 4 * HUGE, -2), (HUGE, -2 * HUGE, 1))

    def test_point_of_wrong(self):
        for value in NO_INTEGERS:
            for args in ((value, 1, 1), (1, value, 1), (1, 1, value), (value, "", 0), (1, value, 0)):
                error = raised(point_of, *args)
                self.assertIsInstance(error, InvalidNumber)
                self.assertIs(error.value, value)
        self.assertEqual(raised(point_of, 1, 1, 0).value, 0)
        self.assertEqual(raised(point_of, 1, 1, w=0).value, 0)

    def test_turn_of(self):
        for one, two, three in itertools.product(some_points(1, 9), repeat=3):
            (ax, ay), (bx, by), (cx, cy) = exact(one), exact(two), exact(three)
            value = (bx - ax) * (cy - ay) - (by - ay) * (cx - ax)
            self.assertEqual(turn_of(one, two, three), (value > 0) - (value < 0))
        self.assertEqual(turn_of(ORIGIN, (HUGE, 1, 1), (HUGE - 1, 1, 1)), 1)
        self.assertEqual(turn_of(ORIGIN, (HUGE, HUGE, 2), (1, 1, 3)), 0)

    def test_is_between(self):
        one, two = (0, 0, 1), (3, 1, 2)
        for point in (one, two, (3, 1, 4), (6, 2, 5)):
            self.assertIs(is_between(point_of(*point), one, two), True)
            self.assertIs(is_between(point_of(*point), two, one), True)
        for point in ((3, 1, 1), (-3, -1, 2), (1, 1, 1), (1, 0, 1)):
            self.assertIs(is_between(point, one, two), False)
        self.assertIs(is_between(one, one, one), True)
        self.assertIs(is_between(two, one, one), False)

    def test_line_meet(self):
        for numbers in MAPS:
            one, two, three, four = [led(numbers, corner) for corner in ((0, 0), (1, 1), (0, 1), (1, 0))]
            middle = led(numbers, (1, 1, 2))
            for points in ((one, two, three, four), (two, one, three, four), (four, three, one, two)):
                self.assertEqual(line_meet(*points), middle)
            far = led(numbers, (5, 5))
            self.assertEqual(line_meet(two, far, three, four), middle)
            self.assertIsNone(line_meet(one, two, two, far))
            self.assertIsNone(line_meet(one, three, four, two))

    def test_line_meet_of_no_line(self):
        self.assertIsInstance(raised(line_meet, ORIGIN, ORIGIN, (1, 1, 1), (2, 1, 1)), InvalidOperation)
        self.assertIsInstance(raised(line_meet, (1, 1, 1), (2, 1, 1), ORIGIN, ORIGIN), InvalidOperation)
        self.assertIsInstance(raised(line_meet, ORIGIN, ORIGIN, (1, 1, 1), None), InvalidPoint)

    def check_pieces(self, one, two, three, four, expected):
        for numbers in MAPS:
            points = [led(numbers, corner) for corner in (one, two, three, four)]
            wanted = tuple(sorted(led(numbers, corner) for corner in expected))
            for a, b, c, d in ((0, 1, 2, 3), (1, 0, 2, 3), (0, 1, 3, 2), (2, 3, 0, 1), (3, 2, 1, 0)):
                self.assertEqual(pieces_meet(points[a], points[b], points[c], points[d]), wanted)

    def test_pieces_meet(self):
        self.check_pieces((0, 0), (3, 1), (1, 1), (2, 0), [(3, 1, 2)])
        self.check_pieces((0, 0), (2, 0), (1, 0), (1, 5), [(1, 0)])
        self.check_pieces((0, 0), (1, 0), (1, 0), (1, 5), [(1, 0)])
        self.check_pieces((0, 0), (1, 0), (1, 0), (3, 0), [(1, 0)])
        self.check_pieces((4, 0), (0, 0), (2, 0), (6, 0), [(2, 0), (4, 0)])
        self.check_pieces((0, 0), (6, 6), (1, 1), (2, 2), [(1, 1), (2, 2)])
        self.check_pieces((0, 0), (6, 6), (0, 0), (2, 2), [(0, 0), (2, 2)])
        self.check_pieces((0, 0), (6, 6), (0, 0), (6, 6), [(0, 0), (6, 6)])
        for other in ([(0, 1), (1, 1)], [(2, 0), (3, 0)], [(2, 0), (2, 4)], [(2, 1), (3, 2)], [(0, 1), (1, 2)]):
            self.check_pieces((0, 0), (1, 0), other[0], other[1], [])

    def test_pieces_of_one_point(self):
        self.check_pieces((1, 1), (1, 1), (0, 0), (2, 2), [(1, 1)])
        self.check_pieces((1, 1), (1, 1), (1, 1), (2, 2), [(1, 1)])
        self.check_pieces((1, 1), (1, 1), (1, 1), (1, 1), [(1, 1)])
        self.check_pieces((1, 1), (1, 1), (2, 2), (2, 2), [])
        self.check_pieces((3, 3), (3, 3), (0, 0), (2, 2), [])
        self.check_pieces((1, 0), (1, 0), (0, 0), (2, 2), [])

    def test_middle_and_square(self):
        for one, two in itertools.product(some_points(3, 12), repeat=2):
            (ax, ay), (bx, by) = exact(one), exact(two)
            self.assertEqual(middle_of(one, two), told((ax + bx) / 2, (ay + by) / 2))
            square = Fraction((ax - bx) ** 2 + (ay - by) ** 2)
            self.assertEqual(square_between(one, two), (square.numerator, square.denominator))
        self.assertEqual(square_between((HUGE, 0, 1), (0, HUGE, 1)), (2 * HUGE ** 2, 1))

    def test_sorted_round(self):
        for seed in range(8):
            points = some_points(seed, 30)
            centre = (1, 1, 2)
            points = tuple(point for point in points if point != centre)
            cx, cy = exact(centre)

            def angle(point):
                x, y = exact(point)
                return atan2(float(y - cy), float(x - cx)) % (2 * 3.141592653589793), (x - cx) ** 2 + (y - cy) ** 2

            found = sorted_round(centre, points)
            self.assertEqual(len(found), len(set(points)))
            self.assertEqual(set(found), set(points))
            keys = [angle(point) for point in found]
            for (angle_one, square), (angle_two, other) in zip(keys, keys[1:]):
                self.assertTrue(angle_one < angle_two + 1e-9)
                if abs(angle_one - angle_two) < 1e-9:
                    self.assertLess(square, other)

    def test_sorted_round_in_order(self):
        told_round = ((1, 0, 2), (1, 0, 1), (2, 0, 1), (HUGE, 1, 1), (2, 1, 1), (4, 2, 1), (0, 1, 1), (-1, 1, 1),
                      (-3, 0, 1), (-2, -1, 1), (-4, -2, 1), (0, -1, 3), (0, -5, 1), (1, -1, 1), (HUGE, -1, 1))
        self.assertEqual(sorted_round(ORIGIN, tuple(sorted(told_round))), told_round)
        self.assertEqual(sorted_round(ORIGIN, told_round[::-1] + told_round), told_round)
        self.assertEqual(sorted_round(ORIGIN, ()), ())

    def test_wrong_points(self):
        calls = ((turn_of, 3), (is_between, 3), (line_meet, 4), (pieces_meet, 4), (middle_of, 2), (square_between, 2))
        for call, count in calls:
            for at in range(count):
                for value in NO_POINTS:
                    args = [ORIGIN] * count
                    args[at] = value
                    self.assertIsInstance(raised(call, *args), InvalidPoint)
                self.assertIsInstance(raised(call, *[None] * count), InvalidPoint)

    def test_sorted_round_wrong(self):
        for value in NO_POINTS:
            self.assertIsInstance(raised(sorted_round, value, ()), InvalidPoint)
            self.assertIsInstance(raised(sorted_round, ORIGIN, (value,)), InvalidPoint)
            self.assertIsInstance(raised(sorted_round, ORIGIN, (ORIGIN, value)), InvalidPoint)
        for value in ([(1, 0, 1)], None, "points", (1, 0, 1), {}):
            self.assertIsInstance(raised(sorted_round, ORIGIN, value), InvalidPoint)
        self.assertIsInstance(raised(sorted_round, ORIGIN, ((1, 0, 1), ORIGIN)), InvalidOperation)

    def test_nothing_is_changed(self):
        points = ((2, 0, 1), (1, 0, 1))
        sorted_round(ORIGIN, points)
        self.assertEqual(points, ((2, 0, 1), (1, 0, 1)))


if __name__ == "__main__":
    unittest.main()
