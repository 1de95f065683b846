"""Shapes: points 0.4 to 0.13 and 3.1."""

import random
import unittest

from tests.helpers import (
    EMPTY, FRAME, HUGE, MAPS, NO_POINTS, NO_SHAPES, POSTS, RAILS, ROAD, SQUARE, WELL, holds_told, led, led_shape,
    led_told, raised, random_told,
)
from wherebase.base.points import is_point
from wherebase.draw.drawings import Drawing
from wherebase.errors import InvalidPoint, InvalidShape, TooMany
from wherebase.meet.meets import relations
from wherebase.shape.overlays import common, joint, less
from wherebase.shape.shapes import (
    MAX_TOLD, Shape, area, area_shapes, body, border, dots, empty, filled, is_form, knots, line, lines, lone, parts,
    place, ring_flaws, without_holes,
)


def ring(*corners):
    return tuple((x, y, 1) for x, y in corners)


def side(ax, ay, bx, by):
    return ((ax, ay, 1), (bx, by, 1))


# nine cells of which one corner and the middle are missing: both holes of the square meet in one point
PINCHED = less(area((0, 0), (3, 0), (3, 3), (0, 3)), area((0, 0), (1, 0), (1, 1), (0, 1)), area((1, 1), (2, 1), (2, 2), (1, 2)))
TEE = line((0, 0), (4, 0), (2, 0), (2, 2))
CROSS = Shape((), (((0, 0), (2, 2)), ((0, 2), (2, 0))), ())
MIX = Shape(SQUARE.areas, (((2, 2), (6, 2)), ((1, 1), (1, 1))), ((5, 5),))


class LeastFormTest(unittest.TestCase):
    def test_rings_that_meet_themselves(self):
        bow = area((0, 0), (2, 2), (2, 0), (0, 2))
        self.assertEqual(bow.form, (((ring((0, 0), (1, 1), (0, 2)),), (ring((1, 1), (2, 0), (2, 2)),)), (), ()))
        star = area((0, 6), (4, -6), (-6, 2), (6, 2), (-4, -6))
        self.assertEqual((len(star.areas), len(star), len(parts(star))), (5, 15, 1))
        self.assertEqual(place(star, (0, 0, 1)), "outside")
        twice = area((0, 0), (4, 0), (4, 4), (0, 4), (0, 0), (4, 0), (4, 4), (0, 4))
        self.assertEqual(twice, EMPTY)

    def test_sides_told_twice(self):
        spike = area((0, 0), (4, 0), (9, 0), (4, 0), (4, 4), (0, 4), (0, 4), (2, 4), (0, 4))
        self.assertEqual(spike, SQUARE)
        bridge = area((0, 0), (4, 0), (4, 4), (0, 4), (0, 0), (1, 1), (1, 3), (3, 3), (3, 1), (1, 1))
        self.assertEqual(bridge, FRAME)
        self.assertEqual(area((0, 0), (2, 0), (1, 0)), EMPTY)
        self.assertEqual(area((1, 1), (1, 1), (1, 1)), EMPTY)
        self.assertEqual(filled(((0, 0), (4, 0), (4, 4)), ((4, 4), (4, 0), (0, 0))), EMPTY)
        self.assertEqual(filled(((0, 0), (4, 0), (4, 4)), ((0, 0), (4, 4), (0, 4))), SQUARE)

    def test_holes(self):
        hole = ((1, 1), (3, 1), (3, 3), (1, 3))
        told = filled(((4, 4), (4, 0), (0, 0), (0, 4)), hole)
        self.assertEqual(told, FRAME)
        self.assertEqual(told.areas, ((ring((0, 0), (4, 0), (4, 4), (0, 4)), ring((1, 1), (1, 3), (3, 3), (3, 1))),))
        island = filled(((0, 0), (9, 0), (9, 9), (0, 9)), ((1, 1), (8, 1), (8, 8), (1, 8)), ((2, 2), (3, 2), (2, 3)))
        self.assertEqual([len(rings) for rings in island.areas], [2, 1])
        two = filled(((0, 0), (9, 0), (9, 9), (0, 9)), ((5, 5), (6, 5), (5, 6)), ((2, 2), (3, 2), (2, 3)))
        self.assertEqual([one[0] for one in two.areas[0]], [(0, 0, 1), (2, 2, 1), (5, 5, 1)])

    def test_areas_that_touch(self):
        corner = Shape(((((0, 0), (1, 0), (1, 1), (0, 1)),), (((1, 1), (2, 1), (2, 2), (1, 2)),)), (), ())
        self.assertEqual([rings[0][0] for rings in corner.areas], [(0, 0, 1), (1, 1, 1)])
        self.assertEqual(len(parts(corner)), 1)
        along = Shape(((((0, 0), (1, 0), (1, 1), (0, 1)),), (((1, 0), (2, 0), (2, 1), (1, 1)),)), (), ())
        self.assertEqual(along.areas, ((ring((0, 0), (2, 0), (2, 1), (0, 1)),),))
        outer, hole = ring((0, 1), (1, 1), (1, 0), (3, 0), (3, 3), (0, 3)), ring((1, 1), (1, 2), (2, 2), (2, 1))
        self.assertEqual(PINCHED.form, (((outer, hole),), (), ()))
        # the hole touches the outer ring where this one goes straight on
        inner = less(SQUARE, area((2, 0), (3, 1), (1, 1)))
        self.assertEqual(inner.areas, ((ring((0, 0), (4, 0), (4, 4), (0, 4)), ring((1, 1), (3, 1), (2, 0))),))
        cut = less(SQUARE, area((2, 0), (3, 2), (2, 4), (1, 2)))
        self.assertEqual([len(rings) for rings in cut.areas], [1, 1])

    def test_pieces_and_areas(self):
        self.assertEqual(joint(SQUARE, line((0, 0), (4, 0)), line((1, 1), (4, 4)), line((1, 4), (3, 4))), SQUARE)
        self.assertEqual(MIX.form, (SQUARE.areas, (side(4, 2, 6, 2),), ((5, 5, 1),)))
        through = Shape(FRAME.areas, (((-1, 2), (5, 2)),), ())
        self.assertEqual(through.pieces, (side(-1, 2, 0, 2), side(1, 2, 3, 2), side(4, 2, 5, 2)))
        # a line that only touches a corner of an area goes on straight, and is one piece
        self.assertEqual(joint(SQUARE, line((2, 6), (6, 2))).pieces, (side(2, 6, 6, 2),))

    def test_pieces_and_points(self):
        self.assertEqual(line((0, 0), (2, 0), (1, 0), (3, 0)).form, ((), (side(0, 0, 3, 0),), ()))
        self.assertEqual(line((3, 3), (0, 0)), line((0, 0), (1, 1), (3, 3)))
        self.assertEqual(len(CROSS.pieces), 4)
        self.assertEqual(TEE.pieces, (side(0, 0, 2, 0), side(2, 0, 2, 2), side(2, 0, 4, 0)))
        self.assertEqual(line((0, 0), (2, 0), (2, 2)).pieces, (side(0, 0, 2, 0), side(2, 0, 2, 2)))
        self.assertEqual(Shape((), (((0, 0), (2, 0)),), ((0, 0), (1, 0), (3, 0))).points, ((3, 0, 1),))
        self.assertEqual(Shape(SQUARE.areas, (), ((0, 0), (4, 2), (1, 1), (5, 5), (5, 5, 1))).points, ((5, 5, 1),))
        self.assertEqual(line((1, 1), (1, 1)), dots((1, 1)))
        self.assertEqual(Shape((), (((1, 1), (1, 1)),), ((1, 1),)).form, ((), (), ((1, 1, 1),)))
        self.assertEqual(dots((2, 0), (1, 5), (1, 5)).points, ((1, 5, 1), (2, 0, 1)))

    def test_equal_sets(self):
        self.assertEqual(Shape((), (), ()), empty())
        self.assertEqual(area((2, 0), (4, 0), (4, 4), (0, 4), (0, 0)), SQUARE)
        self.assertEqual(Shape(SQUARE.areas * 3, (), ()), SQUARE)
        self.assertEqual(area((0, 0, 1), (4, 0), (4, 4, 1), (0, 4)), SQUARE)
        for other in (*NO_SHAPES, FRAME, EMPTY):
            self.assertIs(SQUARE == other, False)
            self.assertIs(SQUARE != other, True)
        self.assertIs(SQUARE != area((4, 4), (0, 4), (0, 0), (4, 0)), False)

    def test_random_shapes(self):
        rows = random.Random(3)
        for _ in range(60):
            told = random_told(rows)
            shape = Shape(*told)
            self.assertEqual(Shape(*shape.form), shape)
            self.assertIs(is_form(shape.form), True)
            areas, pieces, points = shape.form
            self.assertEqual(len(shape), sum(len(one) for rings in areas for one in rings) + len(pieces) + len(points))
            for rings in areas:
                self.assertEqual(ring_flaws(rings[0]), ())
                for hole in rings[1:]:
                    self.assertEqual(ring_flaws(hole[:1] + hole[:0:-1]), ())
            drawing = Drawing(shape)
            for cell in (*drawing.corners, *drawing.edges, *range(len(drawing.faces))):
                point = drawing.point_in(cell)
                expected = holds_told(*told, point)
                if expected is not None:
                    self.assertEqual(point in shape, expected)
            numbers = rows.choice(MAPS)
            self.assertEqual(Shape(*led_told(numbers, *told)), led_shape(numbers, shape))

    def test_properties(self):
        self.assertEqual(FRAME.form, (FRAME.areas, FRAME.pieces, FRAME.points))
        self.assertEqual([one.dimension for one in (SQUARE, MIX, ROAD, WELL, EMPTY)], [2, 2, 1, 0, -1])
        self.assertEqual([len(one) for one in (SQUARE, MIX, ROAD, WELL, EMPTY)], [4, 6, 1, 1, 0])
        self.assertEqual([bool(one) for one in (SQUARE, ROAD, WELL, EMPTY)], [True, True, True, False])
        self.assertEqual(str(MIX), "shape of 1 areas, 1 pieces, 1 points")
        self.assertIsInstance(raised(iter, SQUARE), TypeError)
        for name in ("areas", "pieces", "points", "form", "dimension"):
            self.assertIsInstance(raised(setattr, FRAME, name, ()), AttributeError)

    def test_in(self):
        for point in ((0, 0, 1), (1, 1, 2), (4, 1, 1), (7, 4, 2)):
            self.assertIs(point in FRAME, True)
        for value in (*NO_POINTS, (2, 2, 1), (5, 0, 1), (9, 9, 2)):
            self.assertIs(value in FRAME, False)
        self.assertIs((0, 0, 1) in EMPTY, False)
        self.assertIs((4, 1, 2) in ROAD, False)
        self.assertIs((1, 4, 2) in ROAD, True)

    def test_wrong(self):
        good = (((((0, 0), (1, 0), (0, 1)),),), (((0, 0), (1, 1)),), ((3, 3),))
        wrong_areas = (None, [], (((0, 0), (1, 0), (0, 1)),), ((),), (((),),), ((((0, 0), (1, 0)),),), (((None, (1, 0), (0, 1)),),),
                       (((True, 0), (1, 0), (0, 1)),), ((((0, 0), (1, 0), [0, 1]),),), ((((0, 0), (1, 0), (2, 2, 2)),),), SQUARE, 1)
        wrong_pieces = (None, [], ((0, 0), (1, 1)), (((0, 0),),), (((0, 0), (1, 1), (2, 2)),), (((0, 0), None),), "ab",
                        (((0, 0), (0, False)),), ([(0, 0), (1, 1)],), (((0, 0), (1, 1, 0)),))
        wrong_points = (None, [(0, 0)], (1,), ((0, 0, 0),), ((0, 0), (True, 0)), (0, 0), (((0, 0), (1, 1)),), {}, ((1.5, 2),))
        for at, values in enumerate((wrong_areas, wrong_pieces, wrong_points)):
            for value in values:
                args = list(good)
                args[at] = value
                self.assertIsInstance(raised(Shape, *args), InvalidShape, value)
        self.assertIsInstance(raised(Shape, None, None, None), InvalidShape)

    def test_too_many(self):
        def shape(many):
            return Shape((tuple([((0, 0), (4, 0), (0, 4))]),), tuple([((0, 0), (1, 1))] * 97), tuple([(7, 7)] * (many - 100)))

        self.assertEqual(MAX_TOLD, 200)
        self.assertEqual(len(shape(200)), 4)
        self.assertEqual(raised(shape, 201).limit, 200)
        self.assertIsInstance(raised(Shape, (), (), tuple([(0, 0)] * 300 + [None])), InvalidShape)
        for call in (area, line, dots):
            corners = [(k, k * k) for k in range(201)]
            self.assertIsNone(raised(call, *corners[:200]))
            self.assertEqual(raised(call, *corners).limit, 200)
            self.assertIsInstance(raised(call, *corners, None), InvalidShape)
        rings = [((k, 0), (k + 1, 0), (k, 1)) for k in range(66)]
        self.assertIsNone(raised(filled, *rings))
        self.assertIsInstance(raised(filled, *rings, rings[0]), TooMany)
        self.assertIsInstance(raised(filled, *rings, rings[0], ()), InvalidShape)

    def test_wrong_corners(self):
        for args in ((), ((0, 0),), ((0, 0), (1, 1)), ((0, 0), (1, 1), None), ((0, 0), (1, 0), (True, 1))):
            self.assertIsInstance(raised(area, *args), InvalidShape)
        for args in ((), ((0, 0),), (((0, 0), (1, 1)),), (((0, 0), (1, 0), (0, 1)), None), ([(0, 0), (1, 0), (0, 1)],)):
            self.assertIsInstance(raised(filled, *args), InvalidShape)
        for args in ((), ((0, 0),), ((0, 0), None), ((0, 0), (0, 0, 0)), ((0, 0), [1, 1])):
            self.assertIsInstance(raised(line, *args), InvalidShape)
        for args in ((None,), ((0, 0), (0, True)), (((0, 0), (1, 1)),)):
            self.assertIsInstance(raised(dots, *args), InvalidShape)
        self.assertEqual(dots(), EMPTY)

    def test_great_coordinates(self):
        one = area((0, 0), (HUGE, 0), (HUGE, HUGE), (0, HUGE))
        two = area((1, 0, 2), (0, 1, 2), (-1, 0, 2), (0, -1, 2))
        self.assertEqual(common(one, two), area((0, 0), (1, 0, 2), (0, 1, 2)))
        self.assertIn((HUGE, HUGE, 2), one)
        self.assertEqual(place(one, (HUGE, 1, 1)), "border")
        self.assertEqual(place(one, (HUGE * 2 + 1, 2, 2)), "outside")


class PlacesTest(unittest.TestCase):
    def check_places(self, shape, **told):
        for numbers in MAPS:
            image = led_shape(numbers, shape)
            for word, corners in told.items():
                for corner in corners:
                    self.assertEqual(place(image, led(numbers, corner)), word, corner)
                    self.assertIs(led(numbers, corner) in image, word != "outside")

    def test_place(self):
        self.check_places(
            FRAME, inside=[(1, 1, 2), (7, 7, 2), (1, 4, 2)], border=[(0, 0), (2, 0), (1, 1), (1, 2), (6, 5, 2)],
            outside=[(2, 2), (5, 0), (-1, 2), (9, 0, 2)],
        )
        self.check_places(ROAD, inside=[(0, 2), (1, 4, 2)], border=[(-1, 2), (5, 2)], outside=[(-2, 2), (6, 2), (0, 1)])
        self.check_places(WELL, inside=[(2, 2)], outside=[(2, 1), (0, 0)])
        self.check_places(TEE, inside=[(1, 0), (2, 1)], border=[(2, 0), (0, 0), (4, 0), (2, 2)], outside=[(2, 3)])
        self.check_places(CROSS, inside=[(1, 1), (1, 1, 2)], border=[(0, 0), (2, 0)], outside=[(1, 0)])
        self.check_places(line((0, 0), (2, 0), (0, 2), (0, 0)), inside=[(0, 0), (1, 1), (1, 0)], outside=[(1, 1, 2)])
        self.check_places(MIX, border=[(4, 2), (6, 2)], inside=[(5, 2), (5, 5), (2, 2)], outside=[(5, 3)])
        self.check_places(PINCHED, border=[(1, 1), (2, 2)], inside=[(1, 3, 2), (5, 5, 2)], outside=[(1, 1, 2), (3, 3, 2)])
        self.check_places(EMPTY, outside=[(0, 0)])

    def test_border(self):
        self.assertEqual(border(FRAME), joint(line(*FRAME.areas[0][0], (0, 0)), line(*FRAME.areas[0][1], (1, 1))))
        self.assertEqual(border(TEE), dots((0, 0), (4, 0), (2, 0), (2, 2)))
        self.assertEqual(border(CROSS), dots((0, 0), (2, 0), (0, 2), (2, 2)))
        self.assertEqual(border(MIX).form, ((), border(SQUARE).pieces, ((6, 2, 1),)))
        self.assertEqual(border(WELL), EMPTY)
        self.assertEqual(border(border(SQUARE)), EMPTY)
        inner = less(SQUARE, area((2, 0), (3, 1), (1, 1)))
        self.assertIn(side(0, 0, 2, 0), border(inner).pieces)
        self.assertEqual(border(joint(SQUARE, line((4, 1), (5, 2), (4, 3)))), border(SQUARE))

    def test_knots(self):
        self.assertEqual(knots(TEE), (((0, 0, 1), 1), ((2, 0, 1), 3), ((2, 2, 1), 1), ((4, 0, 1), 1)))
        self.assertEqual(dict(knots(CROSS))[(1, 1, 1)], 4)
        self.assertEqual(knots(line((0, 0), (2, 0), (2, 2)))[1], ((2, 0, 1), 2))
        self.assertEqual(knots(MIX), (((4, 2, 1), 1), ((6, 2, 1), 1)))
        self.assertEqual(knots(joint(SQUARE, line((2, 6), (6, 2)))), (((2, 6, 1), 1), ((6, 2, 1), 1)))
        self.assertEqual(knots(FRAME), ())

    def test_body_lines_lone(self):
        self.assertEqual(body(MIX), SQUARE)
        self.assertEqual(lines(MIX), line((4, 2), (6, 2)))
        self.assertEqual(lone(MIX), dots((5, 5)))
        for shape in (ROAD, WELL, EMPTY):
            self.assertEqual(body(shape), EMPTY)
        self.assertEqual((lines(FRAME), lone(FRAME), lines(ROAD), lone(WELL)), (EMPTY, EMPTY, ROAD, WELL))

    def test_parts(self):
        self.assertEqual(parts(EMPTY), ())
        self.assertEqual(parts(FRAME), (FRAME,))
        self.assertEqual(parts(joint(FRAME, WELL)), (WELL, FRAME))
        self.assertEqual(parts(MIX), (dots((5, 5)), joint(SQUARE, line((4, 2), (6, 2)))))
        touching = joint(SQUARE, line((4, 1), (6, 1)), line((2, 6), (6, 2)), area((6, 2), (8, 2), (8, 3)), dots((9, 9)))
        self.assertEqual(len(parts(touching)), 2)
        apart = joint(line((0, 0), (1, 0)), line((0, 1), (1, 1)), line((3, 0), (3, 1), (4, 1)))
        self.assertEqual([one.pieces for one in parts(apart)], [
            (side(0, 0, 1, 0),), (side(0, 1, 1, 1),), (side(3, 0, 3, 1), side(3, 1, 4, 1)),
        ])
        # a corner that touches a side where it goes straight on
        self.assertEqual(len(parts(joint(SQUARE, area((4, 1), (6, 0), (6, 3))))), 1)
        self.assertEqual(len(parts(joint(FRAME, area((2, 2), (3, 2), (2, 1, 1))))), 1)

    def test_parts_of_random_shapes(self):
        rows = random.Random(4)
        for _ in range(40):
            shape = led_shape(rows.choice(MAPS), Shape(*random_told(rows)))
            found = parts(shape)
            self.assertEqual(joint(*found), shape)
            self.assertEqual([one.form for one in found], sorted([one.form for one in found]))
            for index, one in enumerate(found):
                self.assertEqual(parts(one), (one,))
                for other in found[:index]:
                    self.assertEqual(relations(one, other), ("apart",))
            edge = border(shape)
            self.assertIs(is_form(edge.form), True)
            drawing = Drawing(shape, edge)
            for cell in (*drawing.corners, *drawing.edges, *range(1, len(drawing.faces))):
                first, second = drawing.places(cell)
                self.assertEqual(first == "border", second != "outside")

    def test_area_shapes(self):
        bow = area((0, 0), (2, 2), (2, 0), (0, 2))
        self.assertEqual(area_shapes(bow), (area((0, 0), (1, 1), (0, 2)), area((1, 1), (2, 0), (2, 2))))
        self.assertEqual(area_shapes(MIX), (SQUARE,))
        self.assertEqual(area_shapes(ROAD), ())

    def test_without_holes(self):
        self.assertEqual(without_holes(FRAME), SQUARE)
        self.assertEqual(without_holes(joint(FRAME, WELL)), SQUARE)
        self.assertEqual(without_holes(border(SQUARE)), SQUARE)
        self.assertEqual(without_holes(joint(border(SQUARE), ROAD)), joint(SQUARE, ROAD))
        self.assertEqual(without_holes(MIX), MIX)
        self.assertEqual(without_holes(EMPTY), EMPTY)
        island = joint(filled(((0, 0), (9, 0), (9, 9), (0, 9)), ((1, 1), (8, 1), (8, 8), (1, 8))), area((2, 2), (3, 2), (2, 3)))
        self.assertEqual(without_holes(island), area((0, 0), (9, 0), (9, 9), (0, 9)))

    def test_great_sizes(self):
        self.assertEqual(raised(common, RAILS, POSTS).limit, 200)
        grid = Shape((), tuple(((k, -1), (k, 20)) for k in range(20)) + tuple(((-1, k), (20, k)) for k in range(20)), ())
        self.assertEqual(len(grid), 2 * 20 * 21)
        self.assertEqual(len(border(grid)), 80)
        self.assertEqual(parts(grid), (grid,))
        self.assertEqual(dict(knots(grid))[(3, 4, 1)], 4)
        self.assertEqual((lines(grid), body(grid), lone(grid), area_shapes(grid)), (grid, EMPTY, EMPTY, ()))
        self.assertEqual(place(grid, (3, 4, 1)), "inside")
        self.assertIs(is_form(grid.form), False)
        self.assertEqual(raised(without_holes, grid).limit, 200)
        star = area(*[(k * 17 % 101, k * k * 29 % 103) for k in range(60)])
        self.assertGreater(len(star), 200)
        self.assertEqual(joint(*[]), EMPTY)
        self.assertEqual(sum(len(one) for one in area_shapes(star)), len(star))
        self.assertEqual(border(border(star)), EMPTY)
        self.assertEqual(sum(len(one) for one in parts(star)), len(star))

    def test_wrong_shapes(self):
        for call in (border, body, lines, lone, parts, area_shapes, without_holes, knots):
            for value in NO_SHAPES:
                self.assertIsInstance(raised(call, value), InvalidShape)
        for value in NO_SHAPES:
            self.assertIsInstance(raised(place, value, (0, 0, 1)), InvalidShape)
            self.assertIsInstance(raised(place, value, None), InvalidShape)
        for value in NO_POINTS:
            self.assertIsInstance(raised(place, SQUARE, value), InvalidPoint)


class RingsAndFormsTest(unittest.TestCase):
    def test_ring_flaws(self):
        for told, flaws in (
            (((0, 0), (4, 0), (4, 4), (0, 4)), ()),
            (((0, 4), (4, 4), (4, 0), (0, 0)), ("start", "clockwise")),
            (((0, 0), (0, 4), (4, 4), (4, 0)), ("clockwise",)),
            (((4, 0), (4, 4), (0, 4), (0, 0)), ("start",)),
            (((0, 0), (2, 2), (2, 0), (0, 2)), ("meets",)),
            (((0, 0), (2, 0), (4, 0), (0, 4)), ("straight",)),
            (((0, 0), (4, 0), (2, 0), (0, 4)), ("straight", "meets")),
            (((0, 0), (4, 0), (0, 0)), ("double", "straight", "meets")),
            (((0, 0), (0, 0), (0, 0)), ("double", "straight")),
            (((0, 0), (4, 0), (4, 0), (4, 4)), ("double", "straight", "meets")),
            (((0, 0), (4, 0), (8, 4), (4, 8), (4, 0), (0, 8)), ("double", "meets")),
            (((0, 0), (4, 0), (4, 4), (2, 0), (0, 4)), ("meets",)),
            (((1, 0), (0, 1), (0, 0)), ("start",)),
            (((1, 0), (0, 0), (0, 1)), ("start", "clockwise")),
            ((), ("few",)),
            (((5, 5),), ("few",)),
            (((5, 5), (5, 5)), ("few",)),
        ):
            self.assertEqual(ring_flaws(told), flaws, told)
            self.assertEqual(ring_flaws(tuple((x, y, 1) for x, y in told)), flaws)

    def test_flaws_tell_the_least_form(self):
        rows = random.Random(5)
        without = 0
        for _ in range(400):
            size, many = rows.choice([2, 3, 5]), rows.randint(3, 6)
            told = tuple((rows.randint(0, size), rows.randint(0, size)) for _ in range(many))
            if rows.random() < 0.5:
                told = told[told.index(min(told)):] + told[:told.index(min(told))]
            points = tuple((x, y, 1) for x, y in told)
            flaws = ring_flaws(told)
            self.assertEqual(flaws == (), area(*told).form == (((points,),), (), ()), told)
            without += flaws == ()
        self.assertGreater(without, 20)

    def test_ring_flaws_wrong(self):
        for value in (None, 1, "ring", [(0, 0), (1, 0), (0, 1)], ((0, 0), (1, 0), None), ((0, 0), (1, 0), (0, True)), (0, 0), SQUARE):
            self.assertIsInstance(raised(ring_flaws, value), InvalidShape)
        corners = tuple((k, k * k) for k in range(200))
        self.assertEqual(ring_flaws(corners), ())
        self.assertEqual(raised(ring_flaws, corners + ((0, 1),)).limit, 200)
        self.assertIsInstance(raised(ring_flaws, corners + ((0, 1), None)), InvalidShape)

    def test_is_form(self):
        for shape in (SQUARE, FRAME, ROAD, WELL, EMPTY, TEE, CROSS, MIX, PINCHED):
            for numbers in MAPS:
                self.assertIs(is_form(led_shape(numbers, shape).form), True)
        square, road = SQUARE.areas[0][0], ROAD.pieces[0]
        outer, hole = FRAME.areas[0]
        bow = area((0, 0), (2, 2), (2, 0), (0, 2)).areas
        for value in (
            None, True, (), ((), ()), ((), (), (), ()), [(), (), ()], ((), (), []), SQUARE, {}, "form",
            (((square[1:] + square[:1],),), (), ()), (((square[:1] + square[:0:-1],),), (), ()), ((square,), (), ()),
            (([square],), (), ()), (((list(square),),), (), ()), (((square, square),), (), ()), (((square,), (square,)), (), ()),
            (((hole, outer),), (), ()), (((outer, hole[:1] + hole[:0:-1]),), (), ()), (((square, hole), (hole,)), (), ()),
            (bow[::-1], (), ()), (((bow[0][0], bow[1][0]),), (), ()),
            ((((((0, 0), (4, 0), (4, 4))),),), (), ()), ((((((0, 0, 1), (4, 0, 1), (4, 4, True))),),), (), ()),
            ((((((0, 0, 1), (2, 0, 1), (4, 0, 1), (4, 4, 1))),),), (), ()), (((((0, 0, 1), (4, 0, 1)),),), (), ()),
            ((), (road[::-1],), ()), ((), (list(road),), ()), ((), (road, road), ()), ((), ((road[0], road[0]),), ()),
            ((), (side(0, 0, 1, 0), side(1, 0, 2, 0)), ()), ((), (side(0, 0, 2, 2), side(0, 2, 2, 0)), ()),
            ((), (side(0, 0, 2, 0), side(1, 0, 1, 2)), ()), ((), (side(2, 0, 3, 1), side(0, 0, 2, 2)), ()),
            (SQUARE.areas, (side(1, 1, 2, 2),), ()), (SQUARE.areas, (side(2, 2, 6, 2),), ()),
            (SQUARE.areas, (), ((1, 1, 1),)), ((), (road,), ((0, 2, 1),)), ((), (), ((1, 1, 1), (0, 0, 1))),
            ((), (), ((1, 1, 1), (1, 1, 1))), ((), (), ((1, 1),)), ((), (), ((2, 2, 2),)), ((), (), ((True, 1, 1),)), ((), (), (None,)),
        ):
            self.assertIs(is_form(value), False, value)

    def test_is_form_and_size(self):
        points = tuple((k, 0, 1) for k in range(201))
        self.assertIs(is_form(((), (), points[:200])), True)
        self.assertIs(is_form(((), (), points)), False)

    def test_least_forms_are_points(self):
        for shape in (FRAME, MIX, led_shape(MAPS[3], MIX)):
            self.assertTrue(all(is_point(corner) for rings in shape.areas for one in rings for corner in one))


if __name__ == "__main__":
    unittest.main()
