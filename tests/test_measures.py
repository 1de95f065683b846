"""Measures: points 7.1 to 7.3, and what 0.21 and 0.24 say of areas and middles."""

import random
import unittest
from fractions import Fraction

from tests.drawing_checks import double_area, is_within, sides_of
from tests.helpers import (
    EMPTY, FRAME, HUGE, MAPS, NO_INTEGERS, NO_POINTS, NO_SHAPES, POSTS, RAILS, ROAD, SQUARE, WELL, exact, led, led_shape,
    raised, random_told, told,
)
from tests.test_overlays import comb
from wherebase.base.numbers import is_fraction, times
from wherebase.base.points import is_between, is_point, square_between, turn_of
from wherebase.draw.drawings import Drawing
from wherebase.errors import InvalidNumber, InvalidOperation, InvalidShape, TooMany
from wherebase.measure.measures import (
    are_near, area_of, bounds, enclosed, euler, hull, is_convex, is_nearest_pair, is_some_point, middle, nearest_pair,
    some_point, square_distance,
)
from wherebase.meet.meets import relations
from wherebase.shape.overlays import common, joint, less
from wherebase.shape.shapes import (
    Shape, area, area_shapes, dots, filled, knots, line, lines, parts, place, without_holes,
)

HOLE = area((1, 1), (3, 1), (3, 3), (1, 3))
NESTED = filled(((0, 0), (9, 0), (9, 9), (0, 9)), ((1, 1), (8, 1), (8, 8), (1, 8)), ((2, 2), (7, 2), (7, 7), (2, 7)))
MIX = joint(FRAME, line((4, 4), (7, 7), (9, 7)), dots((2, 2), (11, 0)))
GREAT = common(comb(False), comb(True))


def pair_of(fraction):
    return (fraction.numerator, fraction.denominator)


def marks_of(shape):
    return sorted({end for side in sides_of(shape) for end in side} | set(shape.points))


def exact_area(shape):
    return sum((Fraction(double_area(ring)) for rings in shape.areas for ring in rings), Fraction(0)) / 2


def square_to_side(point, side):
    """The square of the distance of a point to a side, by fractions."""
    (px, py), (ax, ay), (bx, by) = exact(point), exact(side[0]), exact(side[1])
    dx, dy = bx - ax, by - ay
    share = ((px - ax) * dx + (py - ay) * dy) / (dx * dx + dy * dy)
    share = min(max(share, 0), 1)
    return (ax + share * dx - px) ** 2 + (ay + share * dy - py) ** 2


def exact_square(one, other):
    """The least square of a distance, by fractions and by the words of the document."""
    if not one or not other:
        return None
    if "meets" in relations(one, other):
        return (0, 1)
    found = []
    for first, second in ((one, other), (other, one)):
        for mark in marks_of(first):
            found.extend([square_to_side(mark, side) for side in sides_of(second)])
            (x, y) = exact(mark)
            found.extend([(x - px) ** 2 + (y - py) ** 2 for px, py in map(exact, second.points)])
    return pair_of(min(found))


def random_pair(rows):
    """Two shapes, often apart, with bottoms greater than 1 or great numbers."""
    numbers = rows.choice(MAPS)
    x, y = rows.choice([(0, 0), (3, 1), (7, -2), (2, 8)])
    return led_shape(numbers, Shape(*random_told(rows))), led_shape(numbers,
        led_shape((1, 0, 0, 1, x, y, 1), Shape(*random_told(rows))))


class AreaTest(unittest.TestCase):
    def test_areas(self):
        half = led_shape((1, 0, 0, 1, 0, 0, 3), FRAME)
        found = [area_of(shape) for shape in (SQUARE, FRAME, ROAD, WELL, EMPTY, half, NESTED, MIX)]
        self.assertEqual(found, [(16, 1), (12, 1), (0, 1), (0, 1), (0, 1), (4, 3), (57, 1), (12, 1)])
        self.assertEqual(area_of(area((0, 0), (HUGE, 0), (0, HUGE))), (HUGE * HUGE, 2))
        self.assertEqual(area_of(area((0, 0, 1), (1, 0, HUGE), (0, 1, HUGE))), (1, 2 * HUGE * HUGE))

    def test_maps_multiply_areas(self):
        rows = random.Random(20)
        for _ in range(20):
            shape = Shape(*random_told(rows))
            self.assertEqual(area_of(shape), pair_of(exact_area(shape)))
            for a, b, c, d, e, f, v in MAPS:
                image = area_of(led_shape((a, b, c, d, e, f, v), shape))
                self.assertTrue(is_fraction(image))
                self.assertEqual(Fraction(*image), Fraction(*area_of(shape)) * abs(Fraction(a * d - b * c, v * v)))

    def test_areas_of_joint_and_common(self):
        rows = random.Random(21)
        for _ in range(20):
            one, other = random_pair(rows)
            both = Fraction(*area_of(one)) + Fraction(*area_of(other))
            self.assertEqual(Fraction(*area_of(joint(one, other))) + Fraction(*area_of(common(one, other))), both)

    def test_great_shapes(self):
        self.assertEqual(area_of(GREAT), (576 * 81, 1))
        self.assertEqual(bounds(GREAT), ((0, 1), (0, 1), (469, 1), (469, 1)))
        self.assertEqual(hull(GREAT), area((0, 0), (469, 0), (469, 469), (0, 469)))
        self.assertEqual(middle(GREAT), (469, 469, 2))
        self.assertIs(is_convex(GREAT), False)
        self.assertIs(is_some_point(GREAT, some_point(GREAT)), True)
        for call in (square_distance, nearest_pair):
            self.assertEqual(raised(call, GREAT, EMPTY).limit, 200)
        for call in (enclosed, euler):
            self.assertEqual(raised(call, GREAT).limit, 200)
        self.assertIsInstance(raised(is_nearest_pair, EMPTY, GREAT, None), TooMany)
        self.assertIsInstance(raised(are_near, GREAT, EMPTY, 1, 1), TooMany)


class BoundsTest(unittest.TestCase):
    def test_bounds(self):
        self.assertIsNone(bounds(EMPTY))
        self.assertEqual(bounds(WELL), ((2, 1), (2, 1), (2, 1), (2, 1)))
        self.assertEqual(bounds(MIX), ((0, 1), (0, 1), (11, 1), (7, 1)))
        self.assertEqual(bounds(dots((1, 1, 2), (-1, 5, 3), (3, 2, 4))), ((-1, 3), (1, 2), (3, 4), (5, 3)))

    def test_random_bounds(self):
        rows = random.Random(22)
        for _ in range(40):
            shape, _ = random_pair(rows)
            if shape:
                xs, ys = zip(*[exact(mark) for mark in marks_of(shape)])
                self.assertEqual(bounds(shape), tuple(pair_of(end) for end in (min(xs), min(ys), max(xs), max(ys))))


class DistanceTest(unittest.TestCase):
    def test_pairings(self):
        ring, piece, point = SQUARE, line((6, 1), (6, 3)), dots((7, 8))
        low, slope, dot = area((10, 0), (12, 0), (11, 3)), line((5, 5), (8, 9)), dots((2, 6))
        for one in (ring, piece, point, FRAME, MIX):
            for other in (low, slope, dot, WELL, EMPTY):
                expected = exact_square(one, other)
                self.assertEqual(square_distance(one, other), expected)
                self.assertEqual(square_distance(other, one), expected)
        self.assertEqual(square_distance(ring, piece), (4, 1))
        self.assertEqual(square_distance(slope, dots((8, 5))), (144, 25))
        self.assertEqual(square_distance(point, dot), (29, 1))
        self.assertEqual(square_distance(line((0, 0), (4, 3)), dots((0, 5))), (16, 1))
        # the nearest points lie near the ends, but are not the ends
        self.assertEqual(square_distance(line((0, 0), (2, 1)), dots((0, 1))), (4, 5))
        self.assertEqual(square_distance(line((0, 0), (2, 1)), dots((2, 0))), (4, 5))
        self.assertEqual(nearest_pair(line((0, 0), (2, 1)), dots((0, 1))), ((2, 1, 5), (0, 1, 1)))

    def test_common_points(self):
        for one, other in (
            (SQUARE, ROAD), (SQUARE, WELL), (FRAME, HOLE), (line((0, 0), (4, 4)), line((0, 4), (4, 0))), (WELL, WELL),
            (area((1, 1), (2, 1), (1, 2)), SQUARE), (SQUARE, dots((4, 3))), (line((0, 0), (2, 0)), line((1, 0), (3, 0))),
        ):
            self.assertEqual(square_distance(one, other), (0, 1))
            first, second = nearest_pair(one, other)
            self.assertEqual(first, second)
            self.assertTrue(first in one and first in other)
        self.assertNotEqual(square_distance(WELL, FRAME), (0, 1))

    def test_random_distances(self):
        rows = random.Random(23)
        for _ in range(60):
            one, other = random_pair(rows)
            square = square_distance(one, other)
            self.assertEqual(square, exact_square(one, other))
            pair = nearest_pair(one, other)
            self.assertEqual(pair is None, square is None)
            if square is not None:
                self.assertTrue(is_fraction(square))
                self.assertTrue(pair[0] in one and pair[1] in other)
                self.assertEqual(square_between(*pair), square)
                self.assertEqual(square == (0, 1), bool(common(one, other)))
            self.assertIs(is_nearest_pair(one, other, pair), pair is not None)
            self.assertIs(is_nearest_pair(one, other, None), False)

    def test_nearest_points_lie_on_pieces(self):
        pair = nearest_pair(line((0, 0), (9, 1)), line((0, 5), (9, 3)))
        self.assertTrue(is_between(pair[0], (0, 0, 1), (9, 1, 1)) and is_between(pair[1], (0, 5, 1), (9, 3, 1)))

    def test_is_nearest_pair(self):
        two = dots((0, 0), (4, 0))
        self.assertIs(is_nearest_pair(two, dots((2, 1)), ((0, 0, 1), (2, 1, 1))), True)
        self.assertIs(is_nearest_pair(two, dots((2, 1)), ((4, 0, 1), (2, 1, 1))), True)
        self.assertIs(is_nearest_pair(dots((2, 1)), two, ((4, 0, 1), (2, 1, 1))), False)
        self.assertIs(is_nearest_pair(SQUARE, ROAD, ((3, 2, 1), (3, 2, 1))), True)
        self.assertIs(is_nearest_pair(SQUARE, ROAD, ((5, 2, 1), (5, 2, 1))), False)
        self.assertIs(is_nearest_pair(SQUARE, ROAD, ((3, 2, 1), (2, 2, 1))), False)
        wall, other = line((0, 0), (0, 4)), line((1, 0), (1, 4))
        self.assertIs(is_nearest_pair(wall, other, ((0, 7, 3), (1, 0, 1))), False)
        self.assertIs(is_nearest_pair(wall, other, ((0, 7, 3), (3, 7, 3))), True)
        # as near as can be, but not in the shapes
        self.assertIs(is_nearest_pair(wall, other, ((0, 5, 1), (1, 5, 1))), False)
        right = ((0, 7, 3), (3, 7, 3))
        wrong = [(point, right[1]) for point in NO_POINTS] + [(right[0], point) for point in NO_POINTS]
        wrong += [right[:1], (*right, right[0]), list(right), right[0], ((0, 1), (1, 1)), ((False, 1, 1), (True, 1, 1))]
        for value in (*NO_POINTS, *NO_SHAPES, *wrong):
            self.assertIs(is_nearest_pair(wall, other, value), False, value)
        self.assertIs(is_nearest_pair(EMPTY, wall, right), False)

    def test_are_near(self):
        # the square distance is 144 / 25
        slope, point = line((5, 5), (8, 9)), dots((8, 5))
        for top, bottom, expected in (
            (144, 25, True), (143, 25, False), (145, 25, True), (288, 50, True), (287, 50, False), (5, 1, False),
            (6, 1, True),
            (0, 1, False), (144 * HUGE, 25 * HUGE, True), (144 * HUGE - 1, 25 * HUGE, False),
        ):
            self.assertIs(are_near(slope, point, top, bottom), expected)
        self.assertIs(are_near(SQUARE, ROAD, 0, 1), True)
        self.assertIs(are_near(SQUARE, ROAD, 0, 9), True)
        for one, other in ((EMPTY, WELL), (WELL, EMPTY), (EMPTY, EMPTY)):
            self.assertIs(are_near(one, other, 100, 1), False)

    def check_number(self, args, value):
        error = raised(are_near, RAILS, POSTS, *args)
        self.assertIsInstance(error, InvalidNumber)
        self.assertIs(error.value, value)

    def test_maps_that_keep_ratios(self):
        rows = random.Random(24)
        for _ in range(20):
            one, other = Shape(*random_told(rows)), led_shape((1, 0, 0, 1, 6, 1, 1), Shape(*random_told(rows)))
            turned = (3, -4, 4, 3, 7, 1, 2)
            image = square_distance(led_shape(turned, one), led_shape(turned, other))
            square = square_distance(one, other)
            self.assertEqual(image, times(square, (25, 4)) if square else None)

    def test_nearest_shape_under_a_map(self):
        near, far = dots((2, 0)), dots((0, 3))
        origin, flat = dots((0, 0)), (9, 0, 0, 1, 0, 0, 1)
        self.assertLess(square_distance(origin, near), square_distance(origin, far))
        self.assertGreater(square_distance(origin, led_shape(flat, near)), square_distance(origin, led_shape(flat, far)))

    def test_wrong_arguments(self):
        for value in NO_SHAPES:
            for call in (square_distance, nearest_pair):
                for args in ((value, SQUARE), (SQUARE, value), (value, value), (value, GREAT), (GREAT, value)):
                    self.assertIsInstance(raised(call, *args), InvalidShape)
            for args in ((value, SQUARE), (SQUARE, value), (GREAT, value)):
                self.assertIsInstance(raised(is_nearest_pair, *args, None), InvalidShape)
                self.assertIsInstance(raised(are_near, *args, -1, 0), InvalidShape)
        for value in (*NO_INTEGERS, -1, -HUGE):
            for args in ((value, 1), (value, 0), (value, value)):
                self.check_number(args, value)
        for value in (*NO_INTEGERS, 0, -1, -HUGE):
            self.check_number((0, value), value)
        self.assertEqual(raised(are_near, RAILS, POSTS, 1, 1).limit, 200)
        for call in (square_distance, nearest_pair):
            self.assertEqual(raised(call, RAILS, POSTS).limit, 200)
        self.assertEqual(raised(is_nearest_pair, RAILS, POSTS, 5).limit, 200)
        self.assertIsNone(raised(square_distance, RAILS, less(POSTS, line((20, 0), (20, 9)))))


class HullTest(unittest.TestCase):
    def test_hulls(self):
        for shape, expected in (
            (EMPTY, EMPTY), (WELL, WELL), (dots((0, 0), (3, 1)), line((0, 0), (3, 1))), (FRAME, SQUARE), (ROAD, ROAD),
            (dots((0, 0), (4, 4), (1, 1), (3, 3)), line((0, 0), (4, 4))), (line((5, 5), (5, 1)), line((5, 1), (5, 5))),
            (dots((0, 0), (0, 9), (0, 3)), line((0, 0), (0, 9))),
            (dots((0, 0), (4, 0), (0, 4), (1, 1)), area((0, 0), (4, 0), (0, 4))),
            (joint(SQUARE, dots((2, 8))), area((0, 0), (4, 0), (4, 4), (2, 8), (0, 4))),
            (joint(SQUARE, dots((2, 4), (4, 8))), area((0, 0), (4, 0), (4, 8), (0, 4))),
        ):
            for numbers in MAPS:
                self.assertEqual(hull(led_shape(numbers, shape)), led_shape(numbers, expected))

    def test_random_hulls(self):
        rows = random.Random(25)
        for _ in range(40):
            one, other = random_pair(rows)
            found = hull(one)
            self.assertEqual(hull(found), found)
            self.assertIs(is_convex(found), True)
            self.assertIs(is_convex(one), one == found)
            self.assertIn("within", relations(one, found))
            self.assertLessEqual(set(marks_of(found)), set(marks_of(one)))
            self.assertIn("within", relations(found, hull(joint(one, other))))
            if found.areas:
                ring = found.areas[0][0]
                turns = {turn_of(ring[k - 2], ring[k - 1], ring[k]) for k in range(len(ring))}
                self.assertEqual((len(found.areas[0]), turns), (1, {1}))

    def test_is_convex(self):
        for shape in (EMPTY, WELL, ROAD, SQUARE, area((0, 0), (1, 0), (0, 1))):
            self.assertIs(is_convex(shape), True)
        for shape in (FRAME, dots((0, 0), (1, 0)), line((0, 0), (1, 0), (1, 1)), joint(SQUARE, ROAD), MIX):
            self.assertIs(is_convex(shape), False)


class MiddleTest(unittest.TestCase):
    def test_middles(self):
        for shape, expected in (
            (SQUARE, (2, 2, 1)), (FRAME, (2, 2, 1)), (area((0, 0), (3, 0), (0, 3)), (1, 1, 1)), (MIX, (2, 2, 1)),
            (less(SQUARE, area((0, 0), (2, 0), (2, 2), (0, 2))), (7, 7, 3)),
            (joint(area((0, 0), (1, 0), (1, 1), (0, 1)), area((3, 0), (4, 0), (4, 1), (3, 1))), (4, 1, 2)),
        ):
            for numbers in MAPS:
                self.assertEqual(middle(led_shape(numbers, shape)), led(numbers, expected))

    def test_by_triangles(self):
        rows = random.Random(26)
        for _ in range(30):
            shape, _ = random_pair(rows)
            if not shape.areas:
                self.assertIsInstance(raised(middle, shape), InvalidOperation)
                continue
            total, across, up = 0, 0, 0
            cx, cy = 5, -3
            for rings in shape.areas:
                for ring in rings:
                    for k in range(len(ring)):
                        (ax, ay), (bx, by) = exact(ring[k - 1]), exact(ring[k])
                        weight = (ax - cx) * (by - cy) - (ay - cy) * (bx - cx)
                        total, across, up = total + weight, across + weight * (ax + bx + cx), up + weight * (ay + by + cy)
            self.assertEqual(middle(shape), told(across / total / 3, up / total / 3))

    def test_middle_need_not_lie_in_it(self):
        bent = area((0, 0), (9, 0), (9, 9), (8, 9), (8, 1), (1, 1), (1, 9), (0, 9))
        self.assertEqual(place(bent, middle(bent)), "outside")

    def test_no_body(self):
        for shape in (ROAD, WELL, EMPTY, joint(ROAD, dots((9, 9)))):
            self.assertIsInstance(raised(middle, shape), InvalidOperation)


class DeepPointTest(unittest.TestCase):
    def test_some_point(self):
        self.assertIsNone(some_point(EMPTY))
        shapes = [SQUARE, FRAME, ROAD, WELL, MIX, NESTED, line((0, 0), (0, 5)), less(SQUARE, area((0, 0), (4, 0), (2, 2)))]
        shapes += [less(area((0, 0), (8, 0), (8, 8), (0, 8)), area((0, 4), (4, 1), (4, 7))), joint(ROAD, dots((9, 9)))]
        rows = random.Random(27)
        shapes += [shape for _ in range(40) for shape in random_pair(rows) if shape]
        for shape in shapes:
            for numbers in MAPS[:3]:
                image = led_shape(numbers, shape)
                self.check_deep(image, some_point(image))
                self.assertIs(is_some_point(image, some_point(image)), True)

    def check_deep(self, shape, point):
        self.assertTrue(is_point(point))
        if shape.dimension == 2:
            self.assertEqual(place(shape, point), "inside")
            self.assertTrue(any(is_within(rings[0], point) for rings in shape.areas))
        elif shape.dimension == 1:
            self.assertIn(point, lines(shape))
            self.assertNotIn(point, [knot for knot, _ in knots(shape)])
        else:
            self.assertIn(point, shape.points)

    def test_is_some_point(self):
        for shape, right, wrong in (
            (FRAME, ((1, 1, 2), (7, 4, 2)), ((2, 2, 1), (0, 0, 1), (1, 1, 1), (1, 2, 1), (9, 9, 1), (0, 2, 1))),
            (MIX, ((1, 1, 2),), ((2, 2, 1), (5, 5, 1), (7, 7, 1), (11, 0, 1), (4, 4, 1))),
            (ROAD, ((0, 2, 1), (9, 4, 2)), ((-1, 2, 1), (5, 2, 1), (6, 2, 1), (0, 0, 1))),
            (line((0, 0), (4, 0), (2, 0), (2, 2)), ((1, 0, 1), (2, 1, 1)), ((2, 0, 1), (2, 2, 1), (2, 3, 1))),
            (joint(ROAD, dots((9, 9))), ((0, 2, 1),), ((9, 9, 1),)), (WELL, ((2, 2, 1),), ((0, 0, 1),)),
            (EMPTY, (), ((0, 0, 1),)),
        ):
            for point in right:
                self.assertIs(is_some_point(shape, point), True)
            for value in (*wrong, *NO_POINTS, *NO_SHAPES[:-3], (2, 2), ((1, 1, 2),)):
                self.assertIs(is_some_point(shape, value), False, value)


class EnclosedTest(unittest.TestCase):
    def test_enclosed(self):
        self.assertEqual(enclosed(FRAME), (HOLE,))
        self.assertEqual((enclosed(EMPTY), enclosed(WELL), enclosed(ROAD), enclosed(SQUARE)), ((), (), (), ()))
        cross = joint(FRAME, line((2, 0), (2, 4)), line((0, 2), (4, 2)))
        corners = [area((x, y), (x + 1, y), (x + 1, y + 1), (x, y + 1)) for x in (1, 2) for y in (1, 2)]
        self.assertEqual(enclosed(cross), tuple(corners))
        # what only hangs in a hole is enclosed too
        self.assertEqual(enclosed(joint(FRAME, WELL, line((1, 1), (2, 1)))), (HOLE,))
        self.assertEqual(enclosed(line((0, 0), (4, 0), (4, 4), (0, 4), (0, 0))), (SQUARE,))
        # the hole of the outer frame is enclosed as far as nothing stands in it
        self.assertEqual(enclosed(NESTED), (filled(((1, 1), (8, 1), (8, 8), (1, 8)), ((2, 2), (7, 2), (7, 7), (2, 7))),))

    def test_random_enclosed(self):
        rows = random.Random(28)
        for _ in range(40):
            shape, _ = random_pair(rows)
            found = enclosed(shape)
            self.assertEqual([one.form for one in found], sorted(one.form for one in found))
            if sum(map(len, (shape, *found))) <= 200:
                self.assertEqual(joint(shape, *found), without_holes(shape))
            drawing = Drawing(shape)
            faces = [face for face in drawing.cells_with("outside") if isinstance(face, int) and face > 0]
            self.assertEqual(set(one.form for one in found), {drawing.closed((face,)).form for face in faces})
            for one in found:
                self.assertEqual(len(area_shapes(one)), 1)
                self.assertNotIn(some_point(less(one, shape)), shape)

    def test_euler(self):
        found = [euler(shape) for shape in (SQUARE, FRAME, ROAD, WELL, EMPTY, MIX, NESTED, dots((0, 0), (1, 1)))]
        self.assertEqual(found, [1, 0, 1, 1, 0, 2, 1, 2])

    def test_random_euler(self):
        rows = random.Random(29)
        for _ in range(40):
            one, other = random_pair(rows)
            self.assertEqual(euler(one), len(parts(one)) - len(enclosed(one)))
            self.assertEqual(euler(one), self.counted(one))
            self.assertEqual(euler(joint(one, other)) + euler(common(one, other)), euler(one) + euler(other))

    def counted(self, shape):
        """The Euler number by the cells of the drawing."""
        drawing = Drawing(shape)
        count = 0
        for cell in (*drawing.corners, *drawing.edges, *range(1, len(drawing.faces))):
            if drawing.places(cell) != ("outside",):
                if isinstance(cell, int):
                    count += 2 - len(drawing.faces[cell])
                else:
                    count += 1 if is_point(cell) else -1
        return count


class WrongShapesTest(unittest.TestCase):
    def test_wrong_shapes(self):
        for call in (area_of, bounds, hull, is_convex, middle, some_point, enclosed, euler):
            for value in NO_SHAPES:
                self.assertIsInstance(raised(call, value), InvalidShape)
        for value in NO_SHAPES:
            self.assertIsInstance(raised(is_some_point, value, (0, 0, 1)), InvalidShape)


if __name__ == "__main__":
    unittest.main()
