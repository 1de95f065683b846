"""Drawings: points 0.14 to 0.16 and 4.1 to 4.3."""

import random
import unittest

from tests.drawing_checks import check_drawing
from tests.helpers import (
    EMPTY, FRAME, HUGE, MAPS, NO_POINTS, NO_SHAPES, POSTS, RAILS, ROAD, SQUARE, WELL, led, led_shape, raised, random_told,
)
from wherebase.draw.drawings import MAX_SHAPES, MAX_SIZE, Drawing, is_drawing, told_drawing
from wherebase.errors import InvalidCell, InvalidDrawing, InvalidOperation, InvalidPoint, InvalidShape
from wherebase.shape.overlays import common, joint, less
from wherebase.shape.shapes import Shape, area, dots, filled, line, place

CROSSING = Drawing(SQUARE, ROAD)
NESTED = filled(((0, 0), (9, 0), (9, 9), (0, 9)), ((1, 1), (8, 1), (8, 8), (1, 8)))
ISLAND = joint(area((2, 2), (4, 2), (2, 4)), line((5, 5), (6, 6)), dots((7, 2)))
WORDS = ("inside", "border", "outside")


def all_cells(drawing):
    return (*drawing.corners, *drawing.edges, *range(len(drawing.faces)))


class DrawingsTest(unittest.TestCase):
    def test_limits(self):
        self.assertEqual((MAX_SHAPES, MAX_SIZE), (8, 200))

    def test_told_drawings(self):
        for shapes in (
            (SQUARE,), (SQUARE, ROAD), (FRAME, WELL), (FRAME, FRAME), (EMPTY,), (EMPTY, EMPTY), (WELL,), (ROAD, EMPTY),
            (SQUARE, FRAME, ROAD, WELL), (NESTED, ISLAND), (SQUARE, area((9, 9), (10, 9), (9, 10))),
            (NESTED, ISLAND, line((0, 12), (9, 12)), dots((20, 20), (3, 3))), (line((0, 0), (4, 4)), line((0, 4), (4, 0))),
            (line((0, 0), (4, 0)), line((2, 0), (6, 0))), (SQUARE, line((0, 0), (4, 0), (4, 9))), (less(SQUARE, area((2, 0), (3, 1), (1, 1))),),
            (area((0, 0), (2, 2), (2, 0), (0, 2)), dots((1, 1))), (line((0, 0), (0, 9)), dots((0, 3), (0, 12)), line((2, 1), (2, 2))),
        ):
            for numbers in MAPS:
                check_drawing(self, Drawing(*[led_shape(numbers, shape) for shape in shapes]))

    def test_random_drawings(self):
        rows = random.Random(6)
        for _ in range(25):
            count = rows.choice([1, 2, 2, 3])
            numbers = rows.choice(MAPS)
            check_drawing(self, Drawing(*[led_shape(numbers, Shape(*random_told(rows))) for _ in range(count)]))

    def test_maps_change_no_places(self):
        rows = random.Random(7)
        for _ in range(20):
            shapes = [Shape(*random_told(rows)) for _ in range(2)]
            drawing = Drawing(*shapes)
            for numbers in MAPS[1:]:
                image = Drawing(*[led_shape(numbers, shape) for shape in shapes])
                self.assertEqual(len(image.faces), len(drawing.faces))
                for cell in all_cells(drawing):
                    point = led(numbers, drawing.point_in(cell))
                    self.assertEqual(image.places(image.cell_of(point)), drawing.places(cell))

    def test_empty(self):
        drawing = Drawing(EMPTY)
        self.assertEqual((drawing.corners, drawing.edges, drawing.faces, drawing.parts), ((), (), ((),), 0))
        self.assertEqual(drawing.places(0), ("outside",))
        self.assertEqual(str(drawing), "drawing of 1 shapes: 0 corners, 0 edges, 1 faces, 0 parts")

    def test_faces(self):
        ring = ((1, 1, 1), (3, 1, 1), (3, 3, 1), (1, 3, 1))
        self.assertEqual(Drawing(FRAME, WELL).faces[2], (ring, ((2, 2, 1),)))
        self.assertEqual(Drawing(FRAME, WELL).faces[0], (((0, 0, 1), (0, 4, 1), (4, 4, 1), (4, 0, 1)),))
        self.assertEqual(Drawing(line((0, 0), (2, 0), (2, 2))).faces, ((((0, 0, 1), (2, 0, 1), (2, 2, 1), (2, 0, 1)),),))
        self.assertEqual(len(Drawing(NESTED, ISLAND).faces[2]), 4)

    def test_places(self):
        self.assertEqual(CROSSING.places((0, 2, 1)), ("border", "inside"))
        self.assertEqual(CROSSING.places((-1, 2, 1)), ("outside", "border"))
        self.assertEqual(CROSSING.places(((0, 0, 1), (0, 2, 1))), ("border", "outside"))
        self.assertEqual([CROSSING.places(face) for face in (0, 1, 2)], [("outside", "outside"), ("inside", "outside"), ("inside", "outside")])
        self.assertEqual(Drawing(SQUARE, WELL).places((2, 2, 1)), ("inside", "inside"))
        lines = Drawing(Shape((), (((0, 0), (2, 2)), ((0, 2), (2, 0))), ()))
        self.assertEqual([lines.places(one) for one in ((1, 1, 1), (0, 0, 1))], [("inside",), ("border",)])

    def test_wrong_cells(self):
        wrong = (*[value for value in NO_POINTS if value not in (0, 1)], True, False, -1, 3, HUGE, (1, 1, 1), (2, 2, 1), ((0, 2, 1), (0, 0, 1)),
                 ((0, 0, 1), (0, 4, 1)), ((-1, 2, 1), (5, 2, 1)), ((0, 0, 1), (0, 2, 1), (0, 4, 1)), [(0, 0, 1), (0, 2, 1)], ((0, 0, True), (0, 2, 1)))
        for value in wrong:
            for call in (CROSSING.places, CROSSING.point_in, CROSSING.around, CROSSING.faces_beside):
                self.assertIsInstance(raised(call, value), InvalidCell, value)
        for value in (0, 1, ((0, 0, 1), (0, 2, 1))):
            self.assertIsInstance(raised(CROSSING.around, value), InvalidCell)
        for value in (0, 1, (0, 2, 1)):
            self.assertIsInstance(raised(CROSSING.faces_beside, value), InvalidCell)
        for value in NO_POINTS:
            self.assertIsInstance(raised(CROSSING.cell_of, value), InvalidPoint)

    def test_around(self):
        self.assertEqual(CROSSING.around((0, 2, 1)), ((-1, 2, 1), (0, 0, 1), (4, 2, 1), (0, 4, 1)))
        self.assertEqual(CROSSING.around((-1, 2, 1)), ((0, 2, 1),))
        self.assertEqual(Drawing(WELL).around((2, 2, 1)), ())

    def test_cells_with(self):
        self.assertEqual(CROSSING.cells_with("outside", "border"), ((-1, 2, 1), (5, 2, 1)))
        self.assertEqual(CROSSING.cells_with("inside", "outside"), (1, 2))
        self.assertEqual(CROSSING.cells_with(None, None), all_cells(CROSSING))
        self.assertEqual(CROSSING.cells_with("border", "border"), ())
        for one in (*WORDS, None):
            for other in (*WORDS, None):
                expected = [cell for cell in all_cells(CROSSING)
                            if all(want in (None, had) for want, had in zip((one, other), CROSSING.places(cell)))]
                self.assertEqual(list(CROSSING.cells_with(one, other)), expected)
        for args in ((), ("inside",), ("inside", "inside", None), ("inside", "within"), (True, None), (["inside"], None), (0, 1), ("", "border")):
            self.assertIsInstance(raised(CROSSING.cells_with, *args), InvalidOperation)

    def test_closed(self):
        self.assertEqual(CROSSING.closed(()), EMPTY)
        self.assertEqual(CROSSING.closed((1, 2, 1)), SQUARE)
        self.assertEqual(CROSSING.closed((1,)), area((0, 0), (4, 0), (4, 2), (0, 2)))
        self.assertEqual(CROSSING.closed((((0, 2, 1), (4, 2, 1)), (0, 2, 1))), line((0, 2), (4, 2)))
        self.assertEqual(CROSSING.closed(((0, 2, 1), (-1, 2, 1))), dots((0, 2), (-1, 2)))
        self.assertEqual(CROSSING.closed(CROSSING.cells_with("border", None)), line((0, 0), (4, 0), (4, 4), (0, 4), (0, 0)))
        for value in (None, [1], 1, (0,), (1, 0), (True,), (3,), (1, None), ((9, 9, 1),), (((0, 0, 1), (0, 4, 1)),), (-1,), "1"):
            self.assertIsInstance(raised(CROSSING.closed, value), InvalidOperation, value)

    def test_closed_makes_overlays(self):
        rows = random.Random(8)
        for _ in range(20):
            one, other = Shape(*random_told(rows)), Shape(*random_told(rows))
            drawing = Drawing(one, other)
            taken = [cell for cell in all_cells(drawing) if "outside" not in drawing.places(cell)]
            self.assertEqual(drawing.closed(tuple(taken)), common(one, other))

    def test_alone(self):
        drawing = Drawing(SQUARE, ROAD, WELL)
        self.assertEqual(drawing.alone(1, 0), Drawing(ROAD, SQUARE))
        self.assertEqual(drawing.alone(2, 2), Drawing(WELL, WELL))
        self.assertEqual(drawing.alone(0).corners, Drawing(SQUARE).corners)
        for args in ((), (0,) * 9, (3,), (-1,), (0, None), (True,), ("0",), (0, (1,))):
            self.assertIsInstance(raised(drawing.alone, *args), InvalidOperation)
        self.assertEqual(raised(Drawing(RAILS, SQUARE).alone, 0, 0).limit, 200)
        self.assertIsInstance(raised(Drawing(RAILS, SQUARE).alone, 0, 0, 2), InvalidOperation)

    def test_cells_lie_in_cells_of_fewer_shapes(self):
        drawing = Drawing(SQUARE, ROAD, area((1, 1), (6, 3), (2, 5)))
        fewer = drawing.alone(0, 2)
        for cell in all_cells(drawing):
            places = drawing.places(cell)
            found = fewer.cell_of(drawing.point_in(cell))
            self.assertEqual(fewer.places(found), (places[0], places[2]))

    def test_equality_and_counts(self):
        self.assertEqual(CROSSING, Drawing(area((4, 4), (0, 4), (0, 0), (4, 0)), ROAD))
        for other in (Drawing(ROAD, SQUARE), Drawing(SQUARE), (SQUARE, ROAD), None, SQUARE, told_drawing(CROSSING)):
            self.assertIs(CROSSING == other, False)
            self.assertIs(CROSSING != other, True)
        self.assertEqual([len(CROSSING), len(Drawing(EMPTY, EMPTY, EMPTY))], [2, 3])
        self.assertEqual(CROSSING.shapes, (SQUARE, ROAD))
        self.assertIsInstance(raised(iter, CROSSING), TypeError)
        for name in ("shapes", "corners", "edges", "faces", "parts"):
            self.assertIsInstance(raised(setattr, CROSSING, name, ()), AttributeError)

    def test_wrong_shapes(self):
        self.assertIsInstance(raised(Drawing), InvalidShape)
        self.assertIsInstance(raised(Drawing, *[EMPTY] * 9), InvalidShape)
        self.assertIsNone(raised(Drawing, *[EMPTY] * 8))
        for value in NO_SHAPES:
            self.assertIsInstance(raised(Drawing, value), InvalidShape)
            self.assertIsInstance(raised(Drawing, RAILS, POSTS, value), InvalidShape)
        self.assertEqual(raised(Drawing, RAILS, POSTS).limit, 200)
        self.assertIsNone(raised(Drawing, RAILS, less(POSTS, line((20, 0), (20, 9)))))

    def test_told_drawing(self):
        corners, edges, faces, places = told_drawing(CROSSING)
        self.assertEqual((corners, edges, faces), (CROSSING.corners, CROSSING.edges, CROSSING.faces))
        self.assertEqual(list(places), list(all_cells(CROSSING)))
        for value in (None, SQUARE, told_drawing(CROSSING), (), "drawing"):
            self.assertIsInstance(raised(told_drawing, value), InvalidDrawing)
        places.clear()
        self.assertEqual(len(told_drawing(CROSSING)[3]), len(all_cells(CROSSING)))

    def test_is_drawing(self):
        shapes, paper = (SQUARE, ROAD), told_drawing(CROSSING)
        corners, edges, faces, places = paper
        self.assertIs(is_drawing(shapes, paper), True)
        self.assertIs(is_drawing(shapes, (corners, edges, faces, dict(list(places.items())[::-1]))), True)
        self.assertIs(is_drawing((ROAD, SQUARE), paper), False)
        true_face = {(True if key == 1 and isinstance(key, int) else key): value for key, value in places.items()}
        true_corner = {((0, 2, True) if key == (0, 2, 1) else key): value for key, value in places.items()}
        lists = {key: list(value) for key, value in places.items()}
        other = {**places, 1: ("outside", "outside")}
        fewer = {key: value for key, value in places.items() if key != 2}
        for value in (
            None, True, (), list(paper), paper[:3], (*paper, ()), (list(corners), edges, faces, places), (corners[1:], edges, faces, places),
            (corners, edges[::-1], faces, places), (corners, edges, faces[::-1], places), (corners, edges, faces, fewer),
            (corners, edges, faces, true_face), (corners, edges, faces, true_corner), (corners, edges, faces, lists),
            (corners, edges, faces, other), (corners, edges, faces, {**places, 3: ("outside", "outside")}), (corners, edges, faces, list(places)),
            (((-1, 2, True), *corners[1:]), edges, faces, places), (corners, edges, faces, None), CROSSING, (corners, edges, faces, {}),
            (corners, edges, faces, {**fewer, "2": places[2]}), (corners, edges, faces, {**fewer, None: places[2]}),
        ):
            self.assertIs(is_drawing(shapes, value), False, value)

    def test_is_drawing_wrong(self):
        paper = told_drawing(CROSSING)
        for value in (None, [SQUARE, ROAD], (), SQUARE, (SQUARE,) * 9, (SQUARE, None), (RAILS, POSTS, None)):
            self.assertIsInstance(raised(is_drawing, value, paper), InvalidShape)
        self.assertEqual(raised(is_drawing, (RAILS, POSTS), None).limit, 200)

    def test_places_by_place(self):
        for point in ((2, 2, 1), (1, 1, 1), (7, 1, 1), (0, 0, 1), (3, 7, 2)):
            found = Drawing(FRAME, ROAD)
            self.assertEqual(found.places(found.cell_of(point)), (place(FRAME, point), place(ROAD, point)))


if __name__ == "__main__":
    unittest.main()
