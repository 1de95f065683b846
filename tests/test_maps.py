"""Maps: points 8.1 to 8.3, and 0.22."""

import random
import unittest
from fractions import Fraction
from math import gcd

from tests.helpers import (
    EMPTY, FRAME, HUGE, MAPS, NO_INTEGERS, NO_POINTS, NO_SHAPES, ROAD, SQUARE, WELL, exact, led, led_shape, raised,
    random_told,
)
from tests.test_measures import GREAT, MIX, NESTED, marks_of
from wherebase.base.points import is_point, square_between, turn_of
from wherebase.errors import InvalidMap, InvalidNumber, InvalidOperation, InvalidPoint, InvalidShape, TooMany
from wherebase.maps.maps import (
    Map, is_match, map_by, marks, match, mirror, quarter, same, shift, stretch, symmetries,
)
from wherebase.measure.measures import area_of, hull, middle, square_distance
from wherebase.meet.meets import nine
from wherebase.shape.overlays import common, either, joint, less
from wherebase.shape.shapes import Shape, area, dots, is_form, line, place

LEAN = area((0, 0), (2, 0), (3, 1), (1, 1))
TRIANGLE = area((0, 0), (4, 0), (0, 4))
TWELVE = dots(*[(x, y) for x in range(4) for y in range(3)])
NO_MAPS = (*NO_INTEGERS, (1, 0, 0, 1, 0, 0, 1), "map 1 0 0 1 0 0 over 1", Map)


def map_of(numbers):
    return Map(*numbers[:6], over=numbers[6])


def random_map(rows):
    while True:
        numbers = [rows.randint(-3, 3) for _ in range(6)]
        if numbers[0] * numbers[3] != numbers[1] * numbers[2]:
            return Map(*numbers, over=rows.randint(1, 4))


class MapTest(unittest.TestCase):
    def test_least_numbers(self):
        self.assertEqual(Map(2, 0, 0, 2, 0, 0, over=4).numbers, (1, 0, 0, 1, 0, 0, 2))
        self.assertEqual(Map(-2, 4, 6, 8, 0, -10, over=2).numbers, (-1, 2, 3, 4, 0, -5, 1))
        self.assertEqual(Map(3, 0, 0, 3, 1, 0, over=3).numbers, (3, 0, 0, 3, 1, 0, 3))
        self.assertEqual(Map(HUGE, 0, 0, HUGE, 7 * HUGE, 0, over=HUGE).numbers, (1, 0, 0, 1, 7, 0, 1))
        self.assertEqual(Map(1, 2, 3, 4, 5, 6).numbers, (1, 2, 3, 4, 5, 6, 1))
        self.assertEqual(Map(2, 0, 0, 2, 0, 0, over=2), same())

    def test_factor(self):
        found = [Map(1, 0, 0, 1, 0, 0, over=2).factor, mirror().factor, quarter().factor,
            Map(1, 2, 3, 4, 5, 6, over=4).factor]
        self.assertEqual(found, [(1, 4), (-1, 1), (1, 1), (-1, 8)])
        self.assertEqual(shift(3, 4, over=5).factor, (1, 1))
        self.assertEqual(stretch(HUGE, -1, over=HUGE).factor, (-1, HUGE))

    def test_led(self):
        rows = random.Random(30)
        for _ in range(30):
            one = random_map(rows)
            a, b, c, d, e, f, v = one.numbers
            point = led((rows.randint(1, 9), 2, 3, 1, 1, 1, rows.randint(1, 9)), (rows.randint(-9, 9), rows.randint(-9, 9)))
            x, y = exact(point)
            self.assertTrue(is_point(one.led(point)))
            self.assertEqual(exact(one.led(point)), ((a * x + b * y + e) / v, (c * x + d * y + f) / v))
            self.assertEqual(one.back().led(one.led(point)), point)
            self.assertEqual(gcd(*one.numbers), 1)
        self.assertEqual(Map(HUGE, 0, 0, 1, 0, 0).led((1, 1, HUGE)), (HUGE, 1, HUGE))

    def test_shapes_compared_with_led_points(self):
        rows = random.Random(31)
        shapes = [SQUARE, FRAME, ROAD, WELL, EMPTY, MIX, NESTED]
        shapes += [Shape(*random_told(rows)) for _ in range(25)]
        for shape in shapes:
            for one in [map_of(numbers) for numbers in MAPS] + [mirror(), quarter(), random_map(rows), random_map(rows)]:
                image = one(shape)
                self.assertEqual(image, led_shape(one.numbers, shape))
                self.assertIs(is_form(image.form), True)
                self.assertEqual((~one)(image), shape)
                self.assertEqual([len(row) for row in image.form], [len(row) for row in shape.form])
                self.assertEqual(set(marks(image)), {one.led(point) for point in marks(shape)})

    def test_great_shapes(self):
        image = mirror()(GREAT)
        self.assertEqual((len(image), area_of(image)), (len(GREAT), area_of(GREAT)))
        self.assertEqual(mirror()(image), GREAT)
        self.assertEqual(len(marks(GREAT)), len(GREAT))
        self.assertIs(is_match(GREAT, image, mirror()), True)

    def test_then_and_back(self):
        rows = random.Random(32)
        for _ in range(30):
            one, other = random_map(rows), random_map(rows)
            both = one.then(other)
            for point in ((0, 0, 1), (1, 0, 1), (2, 5, 3)):
                self.assertEqual(both.led(point), other.led(one.led(point)))
            self.assertEqual(~both, (~other).then(~one))
            self.assertEqual(one.back(), ~one)
            self.assertEqual((one.then(~one), (~one).then(one), ~~one), (same(), same(), one))
            self.assertEqual(both.factor, (Fraction(*one.factor) * Fraction(*other.factor)).as_integer_ratio())
        self.assertEqual(Map(2, 0, 0, 2, 0, 0, over=4).then(shift(1, 1)), shift(2, 2).then(Map(1, 0, 0, 1, 0, 0, over=2)))

    def test_made_maps(self):
        self.assertEqual(shift(1, -2, over=3).led((1, 1, 1)), (4, 1, 3))
        self.assertEqual(shift(2, 4, over=2), shift(1, 2))
        self.assertEqual(shift(0, 0, over=9), same())
        self.assertEqual(stretch(3, -1, over=2).led((4, 4, 1)), (6, -2, 1))
        self.assertEqual((quarter().led((2, 1, 1)), mirror().led((2, 1, 1)), same().led((2, 1, 3))),
            ((-1, 2, 1), (-2, 1, 1), (2, 1, 3)))
        self.assertEqual(quarter().then(quarter()), stretch(-1, -1))
        self.assertEqual(quarter()(SQUARE), area((0, 0), (0, 4), (-4, 4), (-4, 0)))

    def test_keeps_ratios(self):
        for one in (same(), quarter(), mirror(), shift(1, 5), stretch(3, -3, over=7), Map(3, -4, 4, 3, 1, 1, over=2),
            Map(3, 4, 4, -3, 0, 0)):
            self.assertIs(one.keeps_ratios(), True)
        for one in (Map(1, 1, 0, 1, 0, 0), stretch(1, 2), Map(1, 2, 2, 1, 0, 0), Map(2, 1, 1, 3, 0, 0),
            Map(1, 1, 1, -2, 0, 0)):
            self.assertIs(one.keeps_ratios(), False)

    def test_ratios_are_kept(self):
        rows = random.Random(33)
        points = ((0, 0, 1), (3, 1, 2), (-1, 4, 1), (5, 5, 3))
        for one in [random_map(rows) for _ in range(40)] + [Map(2, -1, 1, 2, 3, 1), Map(2, 1, 1, -2, 0, 0, over=3)]:
            ratios = set()
            for start, end in [(p, q) for p in points for q in points if p < q]:
                square = Fraction(*square_between(one.led(start), one.led(end)))
                ratios.add(square / Fraction(*square_between(start, end)))
            self.assertEqual(one.keeps_ratios(), len(ratios) == 1)

    def test_equal_and_str(self):
        self.assertEqual(str(quarter()), "map 0 -1 1 0 0 0 over 1")
        self.assertEqual(str(Map(2, 0, 0, 4, -6, 8, over=10)), "map 1 0 0 2 -3 4 over 5")
        long = 10 ** 999
        self.assertEqual(str(shift(long, -1)), f"map 1 0 0 1 {long} -1 over 1")
        self.assertIs(same() == Map(5, 0, 0, 5, 0, 0, over=5), True)
        self.assertIs(same() != shift(0, 1), True)
        for value in (*NO_MAPS, SQUARE):
            self.assertIs(same() == value, False)
            self.assertIs(same() != value, True)

    def test_objects(self):
        with self.assertRaises(TypeError):
            iter(same())
        one = quarter()
        one.then(mirror())
        one.back()
        self.assertEqual(one, quarter())


class WrongMapsTest(unittest.TestCase):
    def check_number(self, value, call, *args, **more):
        error = raised(call, *args, **more)
        self.assertIsInstance(error, InvalidNumber)
        self.assertIs(error.value, value)

    def test_map(self):
        for value in NO_INTEGERS:
            for place_of in range(6):
                args = [0] * 6
                args[place_of] = value
                self.check_number(value, Map, *args)
                self.check_number(value, Map, *args, over=0)
                self.check_number(value, Map, *args[:place_of + 1], *["later"] * (5 - place_of), over=None)
        for value in (*NO_INTEGERS, 0, -1, -HUGE):
            self.check_number(value, Map, 1, 0, 0, 1, 0, 0, over=value)
            self.check_number(value, Map, 0, 0, 0, 0, 0, 0, over=value)
        for args in ((0, 0, 0, 0, 1, 1), (1, 2, 2, 4, 0, 0), (HUGE, HUGE, 1, 1, 0, 0), (0, 0, 3, 4, 0, 0)):
            self.assertIsInstance(raised(Map, *args), InvalidMap)

    def test_shift_and_stretch(self):
        for call in (shift, stretch):
            for value in NO_INTEGERS:
                self.check_number(value, call, value, 1)
                self.check_number(value, call, 1, value)
                self.check_number(value, call, value, "other", over=0)
                self.check_number(value, call, 1, value, over=0)
            for value in (*NO_INTEGERS, 0, -1):
                self.check_number(value, call, 1, 1, over=value)
        self.check_number(0, stretch, 0, None, over=0)
        self.check_number(0, stretch, 1, 0, over=-1)

    def test_methods(self):
        for value in NO_POINTS:
            self.assertIsInstance(raised(same().led, value), InvalidPoint)
        for value in NO_SHAPES:
            self.assertIsInstance(raised(same(), value), InvalidShape)
        for value in NO_MAPS:
            self.assertIsInstance(raised(same().then, value), InvalidMap)

    def test_map_by(self):
        right, flat = ((0, 0, 1), (1, 0, 1), (0, 1, 1)), ((0, 0, 1), (1, 1, 1), (2, 2, 1))
        wrong = [right[:2], (*right, (5, 5, 1)), list(right), None, 3, "abc", (), ((0, 0), (1, 0), (0, 1)), SQUARE]
        wrong += [(right[0], value, right[2]) for value in NO_POINTS]
        for value in wrong:
            for args in ((value, right), (right, value), (value, flat), (flat, value), (value, value)):
                self.assertIsInstance(raised(map_by, *args), InvalidPoint)
        for args in ((flat, right), (right, flat), (flat, flat), (right, (right[0], right[0], right[1])),
            ((right[0],) * 3, right)):
            self.assertIsInstance(raised(map_by, *args), InvalidOperation)

    def test_shapes(self):
        flat = dots((0, 0), (1, 1))
        many = joint(TWELVE, dots((9, 9)))
        for value in NO_SHAPES:
            self.assertIsInstance(raised(marks, value), InvalidShape)
            self.assertIsInstance(raised(symmetries, value), InvalidShape)
            for args in ((value, SQUARE), (SQUARE, value), (flat, value), (value, many), (many, value)):
                self.assertIsInstance(raised(match, *args), InvalidShape)
                self.assertIsInstance(raised(is_match, *args, same()), InvalidShape)
        for shape in (EMPTY, WELL, ROAD, flat, dots(*[(k, k) for k in range(13)]), joint(ROAD, dots((9, 2)))):
            self.assertIsInstance(raised(symmetries, shape), InvalidOperation)
            for other in (SQUARE, EMPTY, many, GREAT):
                self.assertIsInstance(raised(match, shape, other), InvalidOperation)
        for args in ((many, SQUARE), (SQUARE, many), (many, many), (SQUARE, GREAT), (GREAT, EMPTY), (many, ROAD)):
            self.assertEqual(raised(match, *args).limit, 12)
        self.assertEqual(raised(symmetries, many).limit, 12)
        self.assertIsInstance(raised(symmetries, GREAT), TooMany)
        for other in (EMPTY, WELL, ROAD, TWELVE):
            self.assertIsNone(match(SQUARE, other))


class MatchTest(unittest.TestCase):
    def test_map_by(self):
        rows = random.Random(34)
        for _ in range(30):
            one = random_map(rows)
            corners = tuple(led((2, 1, 0, 3, 1, 0, rows.randint(1, 5)),
                (rows.randint(-5, 5), rows.randint(-5, 5))) for _ in range(3))
            if turn_of(*corners):
                self.assertEqual(map_by(corners, tuple(one.led(corner) for corner in corners)), one)
        great = map_of(MAPS[4])
        corners = ((1, 2, 3), (HUGE, 5, 2), (0, 1, 1))
        self.assertEqual(map_by(corners, tuple(great.led(corner) for corner in corners)), great)

    def test_marks(self):
        self.assertEqual(marks(ROAD), ((-1, 2, 1), (5, 2, 1)))
        self.assertEqual((marks(EMPTY), marks(WELL)), ((), ((2, 2, 1),)))
        for shape in (SQUARE, FRAME, MIX, NESTED):
            self.assertEqual(list(marks(shape)), marks_of(shape))

    def test_matches(self):
        rows = random.Random(35)
        shapes = [SQUARE, TRIANGLE, FRAME, TWELVE, line((0, 0), (1, 0), (1, 1)), joint(SQUARE, dots((9, 7))),
            joint(TRIANGLE, line((4, 0), (6, 1)))]
        for shape in shapes:
            for one in [map_of(numbers) for numbers in MAPS] + [random_map(rows) for _ in range(3)]:
                image = one(shape)
                found = match(shape, image)
                self.assertEqual(found(shape), image)
                self.assertIs(is_match(shape, image, found), True)
                self.assertIs(is_match(shape, image, one), True)
                self.assertEqual(match(image, shape)(image), shape)

    def test_no_match(self):
        for one, other in (
            (SQUARE, TRIANGLE), (SQUARE, area((0, 0), (5, 0), (4, 4), (0, 4))),
            (SQUARE, line((0, 0), (4, 0), (4, 4), (0, 4), (0, 0))),
            (SQUARE, dots((0, 0), (4, 0), (4, 4), (0, 4))), (FRAME, less(SQUARE, area((1, 1), (3, 1), (3, 3), (1, 2)))),
            (joint(SQUARE, dots((9, 7))), joint(SQUARE, dots((9, 0)))),
            (dots((0, 0), (1, 0), (0, 1), (5, 5)), dots((0, 0), (1, 0), (0, 1), (-5, 5))),
            (line((0, 0), (1, 0), (1, 1)), joint(line((0, 0), (1, 0)), dots((1, 1)))),
        ):
            self.assertIsNone(match(one, other))
            self.assertIsNone(match(other, one))
            for value in (same(), mirror(), None):
                self.assertIs(is_match(one, other, value), False)

    def test_is_match(self):
        self.assertIs(is_match(SQUARE, SQUARE, same()), True)
        self.assertIs(is_match(SQUARE, LEAN, same()), False)
        self.assertIs(is_match(EMPTY, EMPTY, quarter()), True)
        self.assertIs(is_match(ROAD, ROAD, Map(-1, 0, 0, 7, 4, -12)), True)
        for value in NO_MAPS:
            self.assertIs(is_match(SQUARE, SQUARE, value), False)

    def test_symmetries(self):
        counts = [len(symmetries(shape)) for shape in (SQUARE, TRIANGLE, FRAME, LEAN, TWELVE,
            area((0, 0), (5, 0), (4, 4), (0, 3)))]
        self.assertEqual(counts, [8, 6, 8, 8, 4, 1])
        hexagon = area((1, 0), (1, 1), (0, 1), (-1, 0), (-1, -1), (0, -1))
        self.assertEqual(len(symmetries(hexagon)), 12)
        self.assertEqual(len(symmetries(joint(SQUARE, line((4, 4), (5, 5))))), 2)
        for shape in (SQUARE, TRIANGLE, TWELVE, hexagon, map_of(MAPS[4])(SQUARE)):
            found = symmetries(shape)
            self.assertIsInstance(found, tuple)
            numbers = [one.numbers for one in found]
            self.assertEqual(numbers, sorted(set(numbers)))
            self.assertIn(same(), found)
            for one in found:
                self.assertEqual(one(shape), shape)
                self.assertIn(~one, found)
                for other in found:
                    self.assertIn(one.then(other), found)


class InvarianceTest(unittest.TestCase):
    def test_maps_change_no_meets(self):
        rows = random.Random(36)
        for _ in range(20):
            one, other = Shape(*random_told(rows)), Shape(*random_told(rows))
            for told in (random_map(rows), map_of(MAPS[3])):
                image, other_image = told(one), told(other)
                self.assertEqual(nine(image, other_image), nine(one, other))
                for call in (joint, common, less, either):
                    self.assertEqual(call(image, other_image), told(call(one, other)))
                self.assertEqual(hull(image), told(hull(one)))
                if one.areas:
                    self.assertEqual(middle(image), told.led(middle(one)))
                for point in ((0, 0, 1), (1, 1, 1), (1, 1, 2), (3, 2, 1)):
                    self.assertEqual(place(image, told.led(point)), place(one, point))
                self.assertEqual(square_distance(image, other_image) == (0, 1), square_distance(one, other) == (0, 1))


if __name__ == "__main__":
    unittest.main()
