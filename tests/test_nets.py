"""Nets of lines: points 9.1 to 9.5."""

import random
import unittest

from tests.helpers import (
    EMPTY, FRAME, MAPS, NO_POINTS, NO_SHAPES, POSTS, RAILS, ROAD, SQUARE, WELL, led, led_shape, raised,
    random_told,
)
from tests.test_measures import GREAT, HOLE, MIX, NESTED
from wherebase.draw.drawings import Drawing
from wherebase.errors import InvalidShape, TooMany
from wherebase.measure.measures import enclosed
from wherebase.meet.meets import relations
from wherebase.net.nets import are_strokes, loose, outline, sections, stroke_count, strokes, threads
from wherebase.shape.overlays import covers, joint, less
from wherebase.shape.shapes import (
    Shape, area, area_shapes, border, dots, knots, line, lines, lone, parts,
)

TEE = line((0, 0), (4, 0), (2, 0), (2, 2))
EIGHT = line((0, 0), (2, 2), (4, 0), (4, 2), (2, 0), (0, 2), (0, 0))
BALLOON = line((0, 0), (2, 0), (4, 1), (4, -1), (2, 0))
GRID = joint(*[line((0, k), (3, k)) for k in range(4)], *[line((k, 0), (k, 3)) for k in range(4)])


def way(*corners):
    return tuple((x, y, 1) for x, y in corners)


def random_lines(rows):
    """Lines on a small grid, with bottoms greater than 1 or great numbers."""
    size = rows.choice([2, 3, 5])
    ends = [((rows.randint(0, size), rows.randint(0, size)),
        (rows.randint(0, size), rows.randint(0, size))) for _ in range(rows.randint(1, 9))]
    return led_shape(rows.choice(MAPS), Shape((), tuple(ends), ()))


def random_shape(rows):
    return led_shape(rows.choice(MAPS), Shape(*random_told(rows)))


def piece_of(one, two):
    return (min(one, two), max(one, two))


class OutlineTest(unittest.TestCase):
    def test_outlines(self):
        self.assertEqual(outline(SQUARE), line((0, 0), (4, 0), (4, 4), (0, 4), (0, 0)))
        self.assertEqual(outline(MIX).form, (
            (), tuple(sorted([*border(FRAME).pieces, *lines(MIX).pieces])), MIX.points,
        ))
        self.assertEqual(outline(joint(SQUARE, WELL)), outline(SQUARE))
        self.assertEqual(outline(joint(FRAME, WELL)).points, ((2, 2, 1),))
        self.assertEqual((outline(EMPTY), outline(ROAD), outline(WELL)), (EMPTY, ROAD, WELL))
        # where a line begins at a side of a ring, there is a knot of the outline
        tongue = joint(SQUARE, line((4, 2), (6, 2)))
        self.assertIn(((4, 2, 1), 3), knots(outline(tongue)))

    def test_random_outlines(self):
        rows = random.Random(40)
        for _ in range(40):
            shape = random_shape(rows)
            found = outline(shape)
            self.assertEqual(found.areas, ())
            self.assertEqual(outline(found), found)
            rings = Shape((), tuple((ring[k - 1],
                ring[k]) for rings in shape.areas for ring in rings for k in range(len(ring))), ())
            self.assertEqual(found, joint(rings, lines(shape), lone(shape)))
            both = sorted([one.form for one in (*area_shapes(shape), *enclosed(shape))])
            self.assertEqual([one.form for one in enclosed(found)], both)

    def test_wrong_arguments(self):
        for call in (outline, loose, threads, stroke_count, strokes):
            for value in NO_SHAPES:
                self.assertIsInstance(raised(call, value), InvalidShape)
        for call in (outline, loose):
            self.assertEqual(raised(call, GREAT).limit, 200)
        for call in (threads, stroke_count, strokes):
            self.assertIsNone(raised(call, border(GREAT)))


class ThreadsTest(unittest.TestCase):
    def test_threads(self):
        self.assertEqual(threads(TEE), (way((0, 0), (2, 0)), way((2, 0), (2, 2)), way((2, 0), (4, 0))))
        self.assertEqual(threads(line((2, 2), (2, 0), (0, 0))), (way((0, 0), (2, 0), (2, 2)),))
        self.assertEqual(threads(line((4, 4), (2, 0), (0, 0), (9, 9))),
            (way((4, 4), (0, 0), (2, 0), (4, 4)), way((4, 4), (9, 9))))
        self.assertEqual(threads(outline(SQUARE)), (way((0, 0), (0, 4), (4, 4), (4, 0), (0, 0)),))
        self.assertEqual(threads(outline(FRAME)),
            (way((0, 0), (0, 4), (4, 4), (4, 0), (0, 0)), way((1, 1), (1, 3), (3, 3), (3, 1), (1, 1))))
        for shape in (SQUARE, EMPTY, WELL, dots((0, 0), (1, 1))):
            self.assertEqual(threads(shape), ())

    def test_both_ends_in_one_fork(self):
        self.assertEqual(threads(BALLOON), (way((0, 0), (2, 0)), way((2, 0), (4, -1), (4, 1), (2, 0))))
        # three closed lines of which two go through each of two crossings
        self.assertEqual(len(threads(EIGHT)), 4)
        flower = joint(*[line((0, 0), (3, k), (3, k + 1), (0, 0)) for k in (0, 2, 4)])
        loops = threads(flower)
        self.assertEqual([loop[0] == loop[-1] == (0, 0, 1) for loop in loops], [True] * 3)
        self.assertEqual(loops[0], way((0, 0), (3, 0), (3, 1), (0, 0)))

    def test_random_threads(self):
        rows = random.Random(41)
        for _ in range(60):
            shape = random_lines(rows)
            degrees = dict(knots(shape))
            found = threads(shape)
            self.assertEqual(list(found), sorted(found))
            passed = [piece_of(one, two) for thread in found for one, two in zip(thread, thread[1:])]
            self.assertEqual(tuple(sorted(passed)), shape.pieces)
            for thread in found:
                self.assertLessEqual(thread, thread[::-1])
                self.assertTrue(all(degrees[knot] == 2 for knot in thread[1:-1]))
                if degrees[thread[0]] == 2:
                    self.assertEqual(thread[0], thread[-1])
                    self.assertEqual(thread[0], min(thread))
                else:
                    self.assertNotEqual(degrees[thread[-1]], 2)

    def test_great_numbers(self):
        for numbers in MAPS:
            for shape in (TEE, BALLOON, EIGHT, outline(FRAME)):
                expected = []
                for thread in threads(shape):
                    image = tuple(led(numbers, knot) for knot in thread)
                    if len(dict(knots(shape))) and dict(knots(shape))[thread[0]] == 2:
                        start = image.index(min(image))
                        image = image[start:-1] + image[:start + 1]
                    expected.append(min(image, image[::-1]))
                self.assertEqual(threads(led_shape(numbers, shape)), tuple(sorted(expected)))


class StrokesTest(unittest.TestCase):
    def test_stroke_count(self):
        for shape, expected in (
            (EMPTY, 0), (WELL, 0), (SQUARE, 0), (ROAD, 1), (TEE, 2), (BALLOON, 1), (EIGHT, 1), (outline(SQUARE), 1),
            (outline(FRAME), 2),
            (GRID, 4), (Shape((), (((0, 0), (2, 2)), ((0, 2), (2, 0))), ()), 2), (MIX, 1),
            (joint(TEE, line((9, 9), (8, 9)), dots((7, 7))), 3),
        ):
            self.assertEqual(stroke_count(shape), expected)
            self.check_strokes(shape)

    def test_random_strokes(self):
        rows = random.Random(42)
        for _ in range(60):
            shape = random_lines(rows)
            degrees = dict(knots(shape))
            count = 0
            for part in parts(lines(shape)):
                count += max(1, sum(degrees[knot] % 2 for knot, _ in knots(part)) // 2)
            self.assertEqual(stroke_count(shape), count)
            self.check_strokes(shape)

    def check_strokes(self, shape):
        found = strokes(shape)
        self.assertIsInstance(found, tuple)
        self.assertEqual(len(found), stroke_count(shape))
        passed = [piece_of(one, two) for stroke in found for one, two in zip(stroke, stroke[1:])]
        self.assertEqual(tuple(sorted(passed)), shape.pieces)
        self.assertIs(are_strokes(shape, found), True)
        self.assertIs(are_strokes(shape, tuple(stroke[::-1] for stroke in found[::-1])), True)
        for index, stroke in enumerate(found):
            rest = found[:index] + found[index + 1:]
            self.assertIs(are_strokes(shape, rest), False)
            self.assertIs(are_strokes(shape, rest + (stroke, stroke)), False)
            self.assertIs(are_strokes(shape, rest + (stroke[:-1],)), False)
            self.assertIs(are_strokes(shape, rest + ((*stroke, stroke[-2]),)), False)
            for cut in range(1, len(stroke) - 1):
                self.assertIs(are_strokes(shape, rest + (stroke[:cut + 1], stroke[cut:])), False)

    def test_are_strokes(self):
        self.assertIs(are_strokes(TEE, (way((0, 0), (2, 0), (4, 0)), way((2, 2), (2, 0)))), True)
        self.assertIs(are_strokes(TEE, (way((4, 0), (2, 0), (2, 2)), way((0, 0), (2, 0)))), True)
        self.assertIs(are_strokes(TEE, threads(TEE)), False)
        self.assertIs(are_strokes(TEE, (way((0, 0), (4, 0)), way((2, 2), (2, 0)))), False)
        self.assertIs(are_strokes(TEE, (way((0, 0), (2, 0), (4, 0)), way((0, 0), (2, 0)))), False)
        self.assertIs(are_strokes(TEE, (way((0, 0), (2, 0), (4, 0)), way((2, 2), (1, 0)))), False)
        self.assertIs(are_strokes(TEE, (way((0, 0), (2, 0), (4, 0)), way((2, 2), (2, 0), (2, 0)))), False)
        self.assertIs(are_strokes(outline(SQUARE), (way((4, 4), (4, 0), (0, 0), (0, 4), (4, 4)),)), True)
        self.assertIs(are_strokes(WELL, ()), True)
        self.assertIs(are_strokes(ROAD, ()), False)
        self.assertIs(are_strokes(WELL, (way((2, 2), (2, 2)),)), False)
        right = way((0, 0), (2, 0), (4, 0))
        for value in (*NO_POINTS, *NO_SHAPES[:-3], right):
            for told in (value, (value,), (right, value), (right, (value, (2, 0, 1))), (right, ((2, 2, 1), value))):
                if value != ():
                    self.assertIs(are_strokes(TEE, told), False, told)
        self.assertIs(are_strokes(TEE, (right, ((2, 2), (2, 0)))), False)
        self.assertIs(are_strokes(TEE, [right, way((2, 2), (2, 0))]), False)
        self.assertIs(are_strokes(TEE, (list(right), way((2, 2), (2, 0)))), False)
        one = line((0, 0, 1), (1, 1, 1))
        self.assertIs(are_strokes(one, (((0, 0, 1), (True, 1, 1)),)), False)
        for value in NO_SHAPES:
            self.assertIsInstance(raised(are_strokes, value, ()), InvalidShape)


class LooseTest(unittest.TestCase):
    def test_loose(self):
        self.assertEqual(loose(TEE), TEE)
        self.assertEqual(loose(joint(outline(SQUARE), ROAD)), less(ROAD, SQUARE))
        self.assertEqual(loose(joint(SQUARE, ROAD, dots((9, 9)))), less(ROAD, SQUARE))
        for shape in (FRAME, SQUARE, EMPTY, WELL, outline(FRAME), EIGHT):
            self.assertEqual(loose(shape), EMPTY)
        # a bridge between two closed lines, and a line that hangs in a hole
        self.assertEqual(loose(joint(outline(SQUARE), line((4, 4), (6, 6)), outline(area((6, 6), (8, 6), (6, 8))))),
            line((4, 4), (6, 6)))
        hook = line((1, 1), (2, 2), (4, 3, 2))
        self.assertEqual(loose(joint(FRAME, hook)), hook)
        # a bridge between two areas is loose, a second one beside it makes both lie on a closed line
        other = area((6, 0), (8, 0), (8, 4), (6, 4))
        bridge = line((4, 1), (6, 1))
        self.assertEqual(loose(joint(SQUARE, other, bridge)), bridge)
        self.assertEqual(loose(joint(SQUARE, other, bridge, line((4, 3), (6, 3)))), EMPTY)

    def test_random_loose(self):
        rows = random.Random(43)
        for _ in range(40):
            shape = random_shape(rows)
            found = loose(shape)
            drawing = Drawing(shape)
            edges = [edge for edge in drawing.edges if len(set(drawing.faces_beside(edge))) == 1]
            self.assertEqual(found, Shape((), tuple(edges), ()))
            self.assertIn("within", relations(found, lines(shape)))
            count = len(parts(outline(shape)))
            for edge in drawing.edges:
                others = Shape((), tuple(one for one in drawing.edges if one != edge), (*edge, *drawing.corners))
                self.assertEqual(len(parts(others)) == count + 1, edge in edges)
            self.assertEqual(loose(less(outline(shape), found)), EMPTY)


class SectionsTest(unittest.TestCase):
    def test_bodies(self):
        halves = (area((0, 0), (4, 0), (4, 2), (0, 2)), area((0, 2), (4, 2), (4, 4), (0, 4)))
        self.assertEqual(sections(SQUARE, ROAD), halves)
        self.assertEqual(len(sections(FRAME, ROAD)), 2)
        self.assertEqual(sections(SQUARE, HOLE), tuple(sorted([HOLE, FRAME], key=lambda one: one.form)))
        self.assertEqual(sections(SQUARE, joint(HOLE, WELL)), sections(SQUARE, HOLE))
        self.assertEqual(sections(SQUARE, WELL), (SQUARE,))
        self.assertEqual(sections(SQUARE, line((0, 0), (3, 3))), (SQUARE,))
        self.assertEqual(sections(SQUARE, EMPTY), (SQUARE,))
        self.assertEqual(sections(EMPTY, SQUARE), ())
        self.assertEqual(sections(SQUARE, SQUARE), (SQUARE,))
        self.assertEqual(len(sections(NESTED, EMPTY)), 2)

    def test_lines_and_points(self):
        self.assertEqual([one.pieces for one in sections(ROAD, SQUARE)],
            [(((-1, 2, 1), (0, 2, 1)),), (((0, 2, 1), (4, 2, 1)),), (((4, 2, 1), (5, 2, 1)),)])
        self.assertEqual(len(sections(TEE, dots((2, 0)))), 3)
        self.assertEqual(sections(TEE, dots((1, 0))),
            (line((0, 0), (1, 0)), joint(line((1, 0), (4, 0)), line((2, 0), (2, 2)))))
        self.assertEqual(sections(TEE, dots((0, 0))), (TEE,))
        # a closed line that is cut at one point stays in one part
        ring = outline(SQUARE)
        self.assertEqual(sections(ring, dots((2, 0))), (ring,))
        self.assertEqual(len(sections(ring, dots((2, 0), (4, 4)))), 2)
        self.assertEqual(sections(ring, SQUARE), ())
        self.assertEqual(sections(ROAD, line((0, 2), (2, 2))), (line((-1, 2), (0, 2)), line((2, 2), (5, 2))))
        self.assertEqual(sections(WELL, ROAD), ())
        self.assertEqual(sections(dots((2, 2), (0, 0), (9, 9)), SQUARE), (dots((2, 2)), dots((9, 9))))
        self.assertEqual(sections(WELL, WELL), ())
        # lines and areas that only touch are parts by themselves
        tongue = joint(SQUARE, line((4, 2), (6, 2)))
        self.assertEqual(sections(tongue, EMPTY), (line((4, 2), (6, 2)), SQUARE))

    def test_shapes_that_only_together_divide(self):
        one, other = line((0, 2), (2, 2)), line((2, 2), (4, 2))
        self.assertEqual((sections(SQUARE, one), sections(SQUARE, other)), ((SQUARE,), (SQUARE,)))
        self.assertEqual(len(sections(SQUARE, joint(one, other))), 2)

    def test_random_sections(self):
        rows = random.Random(44)
        for _ in range(60):
            numbers = rows.choice(MAPS)
            one, other = [led_shape(numbers, Shape(*random_told(rows))) for _ in range(2)]
            found = sections(one, other)
            self.assertEqual([part.form for part in found], sorted(part.form for part in found))
            cutting = outline(other)
            if sum(map(len, found)) <= 200:
                self.assertEqual(joint(*found), less(one, cutting))
            for part in found:
                rest = less(part, cutting)
                self.assertEqual(rest, part)
                self.assertEqual(sum([len(part.areas) > 0, len(part.pieces) > 0, len(part.points) > 0]), 1)
                self.assertLessEqual(len(part.areas), 1)
            bodies = [part.form for part in found if part.areas]
            both = joint(outline(one), cutting)
            self.assertEqual(bodies, [part.form for part in enclosed(both) if covers(part, one)])
            # each area by itself, and each connected part of the lines by itself
            alone = [part for row in (area_shapes(one), parts(lines(one)),
                parts(lone(one))) for shape in row for part in sections(shape, other)]
            self.assertEqual([part.form for part in found], sorted(part.form for part in alone))

    def test_connected_parts_of_lines(self):
        rows = random.Random(45)
        for _ in range(40):
            shape = random_lines(rows)
            cuts = sorted({knot for knot, _ in knots(shape)})
            cutting = dots(*rows.sample(cuts, min(2, len(cuts))))
            for part in sections(lines(shape), cutting):
                # without the cuts, and the pieces that end there, the part is still connected
                free = [knot for knot, _ in knots(part) if knot not in cutting.points]
                inner = [piece for piece in part.pieces if not any(end in cutting.points for end in piece)]
                self.assertTrue(len(part.pieces) == 1 or free)
                self.assertEqual(len(parts(Shape((), tuple(inner), tuple(free)))), 1 if free else 0)

    def test_many(self):
        ups = Shape((), tuple(((k, -1), (k, 99)) for k in range(60)), ())
        across = Shape((), tuple(((-1, k), (99, k)) for k in range(60)), ())
        found = sections(ups, across)
        self.assertEqual(len(found), 60 * 61)
        self.assertTrue(all(len(part.pieces) == 1 for part in found))

    def test_wrong_arguments(self):
        for value in NO_SHAPES:
            for args in ((value, SQUARE), (SQUARE, value), (value, value), (value, GREAT), (GREAT, value)):
                self.assertIsInstance(raised(sections, *args), InvalidShape)
        self.assertEqual(raised(sections, RAILS, POSTS).limit, 200)
        self.assertIsInstance(raised(sections, EMPTY, GREAT), TooMany)
        self.assertIsNone(raised(sections, RAILS, less(POSTS, line((20, 0), (20, 9)))))


if __name__ == "__main__":
    unittest.main()
