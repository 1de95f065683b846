"""Overlays: points 0.16, 0.17, 0.21, 0.24, 6.1 and 6.2."""

import itertools
import random
import unittest

from tests.drawing_checks import double_area, sides_of
from tests.helpers import (
    EMPTY, FRAME, HUGE, MAPS, NO_POINTS, NO_SHAPES, POSTS, RAILS, ROAD, SQUARE, WELL, led_shape, led_told, raised, random_told,
)
from wherebase.base.points import line_meet, turn_of
from wherebase.draw.drawings import Drawing
from wherebase.errors import InvalidShape, TooMany
from wherebase.meet.meets import nine, relations
from wherebase.shape.overlays import (
    common, covers, cut_up, either, greatest, is_open_point, joint, less, open_point,
)
from wherebase.shape.shapes import (
    Shape, area, area_shapes, body, border, dots, is_form, knots, line, lines, lone, parts, place, without_holes,
)

A, B = area((0, 0), (2, 0), (2, 2), (0, 2)), area((1, 1), (3, 1), (3, 3), (1, 3))
SIDE = area((2, 0), (4, 0), (4, 2), (2, 2))


def comb(turned):
    """A comb with 24 teeth: two of them, one turned, have 576 squares in common."""
    corners = [(x, y) for k in range(24) for x, y in ((20 * k, -1), (20 * k, 999), (20 * k + 9, 999), (20 * k + 9, -1))]
    corners = [*corners, (500, -1), (500, -30), (0, -30)]
    return area(*[(y, x) if turned else (x, y) for x, y in corners])


def double_area_of(shape):
    return sum(double_area(ring) for rings in shape.areas for ring in rings)


def random_shapes(rows, count):
    numbers = rows.choice(MAPS)
    return [led_shape(numbers, Shape(*random_told(rows))) for _ in range(count)]


class OverlaysTest(unittest.TestCase):
    def test_areas(self):
        self.assertEqual(common(A, B), area((1, 1), (2, 1), (2, 2), (1, 2)))
        self.assertEqual(less(A, B), area((0, 0), (2, 0), (2, 1), (1, 1), (1, 2), (0, 2)))
        self.assertEqual(joint(A, B), area((0, 0), (2, 0), (2, 1), (3, 1), (3, 3), (1, 3), (1, 2), (0, 2)))
        self.assertEqual(len(either(A, B).areas), 2)
        self.assertEqual(common(A, SIDE), line((2, 0), (2, 2)))
        self.assertEqual(joint(A, SIDE), area((0, 0), (4, 0), (4, 2), (0, 2)))
        self.assertEqual(less(A, SIDE), A)
        self.assertEqual(common(A, area((2, 2), (3, 2), (2, 3))), dots((2, 2)))

    def test_lines_and_points(self):
        self.assertEqual(less(ROAD, SQUARE), Shape((), (((-1, 2), (0, 2)), ((4, 2), (5, 2))), ()))
        self.assertEqual(common(ROAD, FRAME), Shape((), (((0, 2), (1, 2)), ((3, 2), (4, 2))), ()))
        self.assertEqual(less(SQUARE, ROAD), SQUARE)
        self.assertEqual(less(SQUARE, WELL), SQUARE)
        self.assertEqual(less(joint(WELL, dots((9, 9))), ROAD), dots((9, 9)))
        self.assertEqual(common(ROAD, line((0, 0), (4, 4))), WELL)
        self.assertEqual(joint(WELL, ROAD), ROAD)
        self.assertEqual(either(ROAD, line((0, 2), (9, 2))), Shape((), (((-1, 2), (0, 2)), ((5, 2), (9, 2))), ()))
        self.assertEqual(joint(line((0, 0), (1, 0)), line((1, 0), (2, 0))).pieces, (((0, 0, 1), (2, 0, 1)),))

    def test_empty_and_same(self):
        self.assertEqual(joint(), EMPTY)
        self.assertEqual(joint(*[EMPTY] * 300), EMPTY)
        for shape in (SQUARE, FRAME, ROAD, WELL, EMPTY):
            self.assertEqual((joint(shape), common(shape), less(shape)), (shape, shape, shape))
            self.assertEqual((joint(shape, shape), common(shape, shape, shape)), (shape, shape))
            self.assertEqual((less(shape, shape), either(shape, shape)), (EMPTY, EMPTY))
            self.assertEqual((joint(shape, EMPTY), less(shape, EMPTY), either(EMPTY, shape)), (shape, shape, shape))
            self.assertEqual((common(shape, EMPTY), less(EMPTY, shape)), (EMPTY, EMPTY))

    def test_several(self):
        rows = random.Random(12)
        for _ in range(25):
            one, two, three = random_shapes(rows, 3)
            self.assertEqual(joint(one, two, three), joint(joint(one, two), three))
            self.assertEqual(common(one, two, three), common(common(one, two), three))
            self.assertEqual(less(one, two, three), less(less(one, two), three))
            self.assertEqual(less(one, two, three), less(less(one, three), two))
            self.assertEqual(either(one, two), joint(less(one, two), less(two, one)))
            self.assertEqual(cut_up(one, two), (less(one, two), common(one, two), less(two, one)))

    def test_by_cells(self):
        rows = random.Random(13)
        for _ in range(25):
            one, two = random_shapes(rows, 2)
            drawing = Drawing(one, two)
            results = (joint(one, two), common(one, two), less(one, two), either(one, two))
            for result in results:
                self.assertIs(is_form(result.form), True)
            for cell in (*drawing.corners, *drawing.edges, *range(len(drawing.faces))):
                point = drawing.point_in(cell)
                first, second = [word != "outside" for word in drawing.places(cell)]
                held = [point in result for result in results]
                self.assertEqual(held[:2], [first or second, first and second])
                # closures have more points than what they close, but none within another face
                if first and not second or isinstance(cell, int):
                    self.assertEqual(held[2], first and not second)
                if first != second or isinstance(cell, int):
                    self.assertEqual(held[3], first != second)

    def test_maps(self):
        rows = random.Random(14)
        for _ in range(15):
            told, other = random_told(rows), random_told(rows)
            for numbers in MAPS:
                one, two = Shape(*led_told(numbers, *told)), Shape(*led_told(numbers, *other))
                for call in (joint, common, less, either):
                    self.assertEqual(call(one, two), led_shape(numbers, call(Shape(*told), Shape(*other))))


class RulesTest(unittest.TestCase):
    def test_rules_that_hold(self):
        rows = random.Random(15)
        for _ in range(40):
            one, two, three = random_shapes(rows, 3)
            self.assertEqual(less(one, two) == EMPTY, covers(one, two))
            self.assertEqual(covers(one, two), "within" in relations(one, two))
            self.assertEqual(joint(less(one, two), common(one, two)), one)
            self.assertEqual(less(joint(one, two), three), joint(less(one, three), less(two, three)))
            self.assertEqual(less(one, joint(two, three)), less(less(one, two), three))
            self.assertEqual(less(one, common(two, three)), joint(less(one, two), less(one, three)))
            self.assertEqual(joint(either(one, two), common(one, two)), joint(one, two))
            self.assertEqual(common(one, joint(two, three)), joint(common(one, two), common(one, three)))
            self.assertEqual(joint(one, common(two, three)), common(joint(one, two), joint(one, three)))
            self.assertEqual(joint(one, common(one, two)), one)
            both = double_area_of(one) + double_area_of(two)
            self.assertEqual(double_area_of(joint(one, two)) + double_area_of(common(one, two)), both)
            self.assertEqual(covers(one, two, three), less(less(one, two), three) == EMPTY)

    def test_rules_that_do_not_hold(self):
        cut = line((1, 1), (3, 1))
        self.assertEqual(either(either(SQUARE, SQUARE), cut), cut)
        self.assertEqual(either(SQUARE, either(SQUARE, cut)), EMPTY)
        self.assertEqual(less(A, less(A, SIDE)), EMPTY)
        self.assertNotEqual(common(A, SIDE), EMPTY)
        self.assertEqual(less(common(cut, SQUARE), cut), EMPTY)
        self.assertEqual(common(cut, less(SQUARE, cut)), cut)

    def test_equal_nines_of_unlike_shapes(self):
        table = (SQUARE, FRAME, ROAD)
        one, other = dots((9, 9)), dots((9, 8))
        self.assertNotEqual(one, other)
        self.assertEqual([nine(one, shape) for shape in table], [nine(other, shape) for shape in table])

    def test_touching_and_overlapping(self):
        third = area((1, 0), (2, 0), (2, 2), (1, 2))
        self.assertIn("touches", relations(A, SIDE))
        self.assertIn("touches", relations(SIDE, third))
        self.assertIn("overlaps", relations(third, B))
        wide = area((1, -1), (2, -1), (2, 1), (1, 1))
        self.assertIn("touches", relations(SIDE, wide))
        self.assertIn("overlaps", relations(A, wide))

    def test_three_that_meet_in_pairs(self):
        sides = [line((0, 0), (4, 0)), line((4, 0), (0, 4)), line((0, 4), (0, 0))]
        for one, other in itertools.combinations(sides, 2):
            self.assertIn("meets", relations(one, other))
        self.assertEqual(common(*sides), EMPTY)

    def test_areas_that_add_up(self):
        shifted = area((2, 0), (6, 0), (6, 4), (2, 4))
        self.assertEqual(double_area_of(shifted), double_area_of(SQUARE))
        self.assertFalse(covers(SQUARE, shifted))

    def test_where_results_lie(self):
        rows = random.Random(16)
        for _ in range(15):
            shapes = random_shapes(rows, 3)
            told = [side for shape in shapes for side in sides_of(shape)]
            ends = {end for side in told for end in side} | {point for shape in shapes for point in shape.points}
            result = either(less(joint(*shapes), common(*shapes[:2])), shapes[2])
            for one, two in sides_of(result):
                on_one_line = [side for side in told if turn_of(*side, one) == 0 == turn_of(*side, two)]
                self.assertTrue(on_one_line)
            for point in {end for side in sides_of(result) for end in side} | set(result.points):
                through = [side for side in told if turn_of(*side, point) == 0]
                crossing = [pair for pair in itertools.combinations(through, 2) if line_meet(*pair[0], *pair[1]) == point]
                self.assertTrue(point in ends or crossing)


class PointsOfOverlaysTest(unittest.TestCase):
    def test_covers(self):
        self.assertIs(covers(A, SQUARE, B), True)
        self.assertIs(covers(SQUARE, A, B), False)
        self.assertIs(covers(area((0, 0), (4, 0), (4, 2), (0, 2)), A, SIDE), True)
        self.assertIs(covers(SQUARE), False)
        self.assertIs(covers(EMPTY), True)
        self.assertIs(covers(WELL, FRAME), False)
        self.assertIs(covers(ROAD, SQUARE, line((-1, 2), (0, 2)), line((4, 2), (5, 2))), True)

    def test_open_point(self):
        rows = random.Random(17)
        for _ in range(30):
            one, two, three = random_shapes(rows, 3)
            found = open_point(one, two, three)
            self.assertEqual(found is None, covers(one, two, three))
            self.assertIs(is_open_point(found, one, two, three), True)
            self.assertIs(is_open_point(None, one, two, three), found is None)
            if found is not None:
                self.assertIn(found, one)
                self.assertEqual([place(two, found), place(three, found)], ["outside", "outside"])
        self.assertEqual(open_point(WELL, FRAME), (2, 2, 1))
        self.assertIn(open_point(ROAD, SQUARE), less(ROAD, SQUARE))
        self.assertEqual(place(SQUARE, open_point(SQUARE, border(SQUARE))), "inside")
        self.assertEqual(place(ROAD, open_point(ROAD, border(ROAD))), "inside")
        self.assertIsNone(open_point(EMPTY))

    def test_is_open_point(self):
        self.assertIs(is_open_point((4, 4, 1), SQUARE, A, B), True)
        self.assertIs(is_open_point((1, 1, 1), SQUARE, A, B), False)
        self.assertIs(is_open_point((2, 2, 1), SQUARE, A), False)
        self.assertIs(is_open_point((5, 5, 1), SQUARE), False)
        self.assertIs(is_open_point((0, 0, 1), SQUARE), True)
        for value in (*NO_POINTS[1:], (4, 4), ((4, 4, 1),), (True, 0, 1), (8, 8, 2), None):
            self.assertIs(is_open_point(value, SQUARE, A, B), False, value)

    def test_greatest(self):
        self.assertEqual([greatest(shape) for shape in (EMPTY, dots((0, 0)), ROAD, FRAME, dots((1, -9, 7)))], [0, 1, 5, 4, 9])
        self.assertEqual(greatest(common(line((0, 0), (3, 2)), line((0, 2), (3, 1)))), 6)
        self.assertEqual(greatest(area((0, 0), (HUGE, 1), (0, 1))), HUGE)
        rows = random.Random(18)
        for _ in range(30):
            shapes = [Shape(*random_told(rows)) for _ in range(3)]
            self.assertLessEqual(greatest(either(less(shapes[0], shapes[1]), shapes[2])), 8 * 6 ** 3)

    def test_wrong_shapes(self):
        for call in (joint, common, less, covers, open_point):
            for value in NO_SHAPES:
                for args in ((value,), (SQUARE, value), (SQUARE, ROAD, value), (value, RAILS, POSTS), (RAILS, POSTS, value)):
                    self.assertIsInstance(raised(call, *args), InvalidShape)
            self.assertEqual(raised(call, RAILS, POSTS).limit, 200)
            self.assertIsNone(raised(call, RAILS, less(POSTS, line((20, 0), (20, 9)))))
        for call in (either, cut_up):
            for value in NO_SHAPES:
                for args in ((value, SQUARE), (SQUARE, value), (value, value)):
                    self.assertIsInstance(raised(call, *args), InvalidShape)
            self.assertEqual(raised(call, RAILS, POSTS).limit, 200)
        for value in NO_SHAPES:
            for args in ((None, value), (None, SQUARE, value), (None, RAILS, POSTS, value), (value, value)):
                self.assertIsInstance(raised(is_open_point, *args), InvalidShape)
            self.assertIsInstance(raised(greatest, value), InvalidShape)
        for value in (None, (0, 0, 1), "point"):
            self.assertEqual(raised(is_open_point, value, RAILS, POSTS).limit, 200)
        self.assertIsInstance(raised(common), InvalidShape)


class GreatResultsTest(unittest.TestCase):
    def test_great_results(self):
        result = common(comb(False), comb(True))
        self.assertGreater(len(result), 2000)
        self.assertEqual(result, common(comb(True), comb(False)))
        self.assertNotEqual(result, SQUARE)
        self.assertEqual(result.dimension, 2)
        self.assertEqual(len(parts(result)), len(area_shapes(result)))
        self.assertEqual(body(result), result)
        self.assertEqual((lines(result), lone(result), knots(result)), (EMPTY, EMPTY, ()))
        self.assertEqual(len(border(result)), len(result))
        self.assertEqual(border(border(result)), EMPTY)
        self.assertIn((5, 5, 1), result)
        self.assertEqual(place(result, (10, 10, 1)), "outside")
        self.assertEqual(greatest(result), 469)
        self.assertIs(is_form(result.form), False)
        for call in (joint, common, less, covers, open_point, Drawing, without_holes):
            self.assertIsInstance(raised(call, result), TooMany)
        for call in (either, cut_up, nine, relations):
            self.assertIsInstance(raised(call, result, EMPTY), TooMany)
        self.assertIsInstance(raised(Shape, *result.form), TooMany)


if __name__ == "__main__":
    unittest.main()
