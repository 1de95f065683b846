"""Meets and relations: points 0.15, 0.22 and 5.1 to 5.4."""

import itertools
import random
import unittest

from tests.helpers import (
    EMPTY, FRAME, HUGE, MAPS, NO_POINTS, NO_SHAPES, POSTS, RAILS, ROAD, SQUARE, WELL, led, led_shape, raised, random_told,
)
from wherebase.base.points import point_of, turn_of
from wherebase.draw.drawings import Drawing
from wherebase.errors import InvalidOperation, InvalidShape
from wherebase.meet.meets import (
    PLACES, RELATIONS, has_pattern, is_related, is_witness, meet_shape, nine, nines, relations, relations_of, witness,
)
from wherebase.shape.overlays import common, joint, less
from wherebase.shape.shapes import Shape, area, border, dots, line, place

TURNED = (0, 3, 6, 1, 4, 7, 2, 5, 8)
SIDE = area((4, 0), (8, 0), (8, 4), (4, 4))
LOW = area((0, 0), (4, 0), (4, 2), (0, 2))
OVER = area((2, 2), (6, 2), (6, 6), (2, 6))


def dimension_of(drawing, one, other):
    """The dimension of a meet, from the cells of a drawing."""
    found = -1
    for cell in drawing.cells_with(one, other):
        found = max(found, 2 if isinstance(cell, int) else 3 - len(cell) if len(cell) == 2 else 0)
    return found


def related(one, other):
    """The relations of two shapes by the words of the document, from the cells of a drawing."""
    drawing = Drawing(one, other)
    cells = (*drawing.corners, *drawing.edges, *range(len(drawing.faces)))
    pairs = [drawing.places(cell) for cell in cells]
    is_common = any("outside" not in pair for pair in pairs)
    within = all(pair[0] == "outside" or pair[1] != "outside" for pair in pairs)
    holds = all(pair[1] == "outside" or pair[0] != "outside" for pair in pairs)
    inside = dimension_of(drawing, "inside", "inside")
    told = {
        "apart": not is_common, "meets": is_common, "within": within, "holds": holds, "equal": within and holds,
        "touches": is_common and inside == -1, "enters": within and inside >= 0,
        "overlaps": one.dimension == other.dimension == inside and not within and not holds,
        "crosses": 0 <= inside < max(one.dimension, other.dimension) and not within and not holds,
    }
    return tuple(sorted(name for name in told if told[name]))


class NinesTest(unittest.TestCase):
    def check_nine(self, one, other, numbers):
        for told in MAPS:
            image, other_image = led_shape(told, one), led_shape(told, other)
            self.assertEqual(nine(image, other_image), numbers)
            self.assertEqual(nine(other_image, image), tuple(numbers[k] for k in TURNED))

    def test_nine(self):
        self.check_nine(SQUARE, ROAD, (1, -1, 2, 0, -1, 1, 1, 0, 2))
        self.check_nine(FRAME, WELL, (-1, -1, 2, -1, -1, 1, 0, -1, 2))
        self.check_nine(SQUARE, SQUARE, (2, -1, -1, -1, 1, -1, -1, -1, 2))
        self.check_nine(SQUARE, SIDE, (-1, -1, 2, -1, 1, 1, 2, 1, 2))
        self.check_nine(SQUARE, OVER, (2, 1, 2, 1, 0, 1, 2, 1, 2))
        self.check_nine(SQUARE, LOW, (2, 1, 2, -1, 1, 1, -1, -1, 2))
        self.check_nine(EMPTY, SQUARE, (-1, -1, -1, -1, -1, -1, 2, 1, 2))
        self.check_nine(EMPTY, EMPTY, (-1,) * 8 + (2,))
        self.check_nine(WELL, WELL, (0, -1, -1, -1, -1, -1, -1, -1, 2))
        self.check_nine(ROAD, line((0, 0), (0, 2)), (-1, 0, 1, -1, -1, 0, 1, 0, 2))
        self.check_nine(line((0, 0), (2, 2)), line((0, 2), (2, 0)), (0, -1, 1, -1, -1, 0, 1, 0, 2))

    def test_nines(self):
        shapes = (SQUARE, ROAD, EMPTY, WELL, SQUARE)
        told = nines(*shapes)
        self.assertEqual(told, tuple(tuple(nine(one, other) for other in shapes) for one in shapes))
        self.assertEqual(nines(FRAME), ((nine(FRAME, FRAME),),))
        self.assertEqual(len(nines(*[EMPTY] * 8)), 8)

    def test_nines_wrong(self):
        self.assertIsInstance(raised(nines), InvalidOperation)
        self.assertIsInstance(raised(nines, *[EMPTY] * 9), InvalidOperation)
        self.assertIsInstance(raised(nines, *[None] * 9), InvalidOperation)
        for value in NO_SHAPES:
            self.assertIsInstance(raised(nines, value), InvalidShape)
            self.assertIsInstance(raised(nines, RAILS, POSTS, value), InvalidShape)
        self.assertEqual(raised(nines, RAILS, POSTS).limit, 200)

    def test_random_nines(self):
        rows = random.Random(9)
        for _ in range(40):
            one, other = Shape(*random_told(rows)), Shape(*random_told(rows))
            drawing = Drawing(one, other)
            numbers = nine(one, other)
            expected = [dimension_of(drawing, first, second) for first in PLACES for second in PLACES]
            self.assertEqual(list(numbers), expected)
            self.assertEqual(nine(other, one), tuple(numbers[k] for k in TURNED))
            self.assertEqual(one.dimension, max(numbers[:6]))
            self.assertEqual(other.dimension, max(numbers[k] for k in (0, 1, 3, 4, 6, 7)))
            self.assertEqual(relations(one, other), related(one, other))
            told = rows.choice(MAPS)
            self.assertEqual(nine(led_shape(told, one), led_shape(told, other)), numbers)


class RelationsTest(unittest.TestCase):
    def test_constants(self):
        self.assertEqual(PLACES, ("inside", "border", "outside"))
        self.assertEqual(RELATIONS, ("apart", "crosses", "enters", "equal", "holds", "meets", "overlaps", "touches", "within"))

    def test_relations(self):
        for one, other, told in (
            (SQUARE, ROAD, ("crosses", "meets")), (FRAME, SQUARE, ("enters", "meets", "within")), (SQUARE, FRAME, ("holds", "meets")),
            (WELL, ROAD, ("enters", "meets", "within")), (FRAME, WELL, ("apart",)), (SQUARE, SIDE, ("meets", "touches")),
            (SQUARE, SQUARE, ("enters", "equal", "holds", "meets", "within")), (SQUARE, OVER, ("meets", "overlaps")),
            (line((0, 0), (2, 2)), line((0, 2), (2, 0)), ("crosses", "meets")), (line((0, 0), (2, 0)), line((1, 0), (3, 0)), ("meets", "overlaps")),
            (border(SQUARE), SQUARE, ("meets", "touches", "within")), (dots((0, 0)), ROAD, ("apart",)), (dots((-1, 2)), ROAD, ("meets", "touches", "within")),
            (EMPTY, SQUARE, ("apart", "within")), (SQUARE, EMPTY, ("apart", "holds")), (EMPTY, EMPTY, ("apart", "equal", "holds", "within")),
            (dots((0, 0), (1, 1)), dots((1, 1), (2, 2)), ("meets", "overlaps")), (dots((2, 2), (9, 9)), SQUARE, ("crosses", "meets")),
            (joint(WELL, dots((9, 9))), ROAD, ("crosses", "meets")),
        ):
            self.assertEqual(relations(one, other), told)
            self.assertEqual(related(one, other), told)
            self.assertEqual(relations_of(nine(one, other)), told)
            for name in RELATIONS:
                self.assertIs(is_related(one, other, name), name in told)

    def test_is_related_wrong(self):
        for value in (None, True, 0, "", "Apart", "apart ", ("apart",), ["apart"], {}, SQUARE):
            self.assertIsInstance(raised(is_related, SQUARE, ROAD, value), InvalidOperation)
            self.assertIsInstance(raised(is_related, RAILS, POSTS, value), InvalidOperation)
            self.assertIsInstance(raised(is_related, SQUARE, None, value), InvalidShape)

    def test_relations_of_any_numbers(self):
        for numbers in itertools.product((-1, 0, 2), repeat=8):
            told = relations_of((*numbers, 2))
            inside = numbers[0]
            is_common = max(numbers[0], numbers[1], numbers[3], numbers[4]) >= 0
            within, holds = max(numbers[2], numbers[5]) < 0, max(numbers[6], numbers[7]) < 0
            self.assertEqual("meets" in told, is_common)
            self.assertEqual("apart" in told, not is_common)
            self.assertEqual("within" in told, within)
            self.assertEqual("holds" in told, holds)
            self.assertEqual("equal" in told, within and holds)
            self.assertEqual("touches" in told, is_common and inside < 0)
            self.assertEqual("enters" in told, within and inside >= 0)
            sizes = max(numbers[:6]), max(numbers[k] for k in (0, 1, 3, 4, 6, 7))
            is_mixed = inside >= 0 and not within and not holds
            self.assertEqual("overlaps" in told, is_mixed and sizes == (inside, inside))
            self.assertEqual("crosses" in told, is_mixed and inside < max(sizes))
            self.assertEqual(told, tuple(sorted(told)))

    def test_relations_of_wrong(self):
        good = (1, -1, 2, 0, -1, 1, 1, 0, 2)
        for value in (None, list(good), good[:8], (*good, 2), (*good[:8], 1), (*good[:8], True), (3, *good[1:]), (-2, *good[1:]),
                      (True, *good[1:]), ("1", *good[1:]), (None, *good[1:]), "1-20-1102", {}, (HUGE, *good[1:]), (*good[:8], "2")):
            self.assertIsInstance(raised(relations_of, value), InvalidOperation, value)

    def test_has_pattern(self):
        numbers = nine(SQUARE, ROAD)
        for index, number in enumerate(numbers):
            for sign in "012-+*":
                fits = sign == "*" or (sign == "+" and number >= 0) or sign == ("-" if number == -1 else str(number))
                pattern = "*" * index + sign + "*" * (8 - index)
                self.assertIs(has_pattern(SQUARE, ROAD, pattern), fits)
        self.assertIs(has_pattern(SQUARE, ROAD, "+-*0-1***"), True)
        self.assertIs(has_pattern(SQUARE, ROAD, "1-20-1102"), True)
        self.assertIs(has_pattern(EMPTY, EMPTY, "--------+"), True)

    def test_has_pattern_wrong(self):
        for value in (None, True, "", "*" * 8, "*" * 10, "********3", "********x", "******** ", ("*",) * 9, ["*"] * 9, 9, "-1*******"[:8] + "?"):
            self.assertIsInstance(raised(has_pattern, SQUARE, ROAD, value), InvalidOperation, value)
            self.assertIsInstance(raised(has_pattern, RAILS, POSTS, value), InvalidOperation)
            self.assertIsInstance(raised(has_pattern, 1, POSTS, value), InvalidShape)

    def test_wrong_shapes(self):
        for call, more in ((nine, ()), (relations, ()), (is_related, ("apart",)), (has_pattern, ("*" * 9,)),
                           (witness, ("inside", "inside")), (is_witness, ("inside", "inside", None)), (meet_shape, ("inside", "inside"))):
            for value in NO_SHAPES:
                self.assertIsInstance(raised(call, value, SQUARE, *more), InvalidShape)
                self.assertIsInstance(raised(call, SQUARE, value, *more), InvalidShape)
                self.assertIsInstance(raised(call, value, None, *[None] * len(more)), InvalidShape)
            self.assertEqual(raised(call, RAILS, POSTS, *more).limit, 200)


class WitnessTest(unittest.TestCase):
    def test_witness(self):
        rows = random.Random(10)
        for _ in range(25):
            numbers = rows.choice(MAPS)
            one, other = [led_shape(numbers, Shape(*random_told(rows))) for _ in range(2)]
            told = nine(one, other)
            for index, (first, second) in enumerate(itertools.product(PLACES, repeat=2)):
                found = witness(one, other, first, second)
                if told[index] == -1:
                    self.assertIsNone(found)
                    continue
                self.assertEqual(len(found), told[index] + 1)
                self.assertIs(is_witness(one, other, first, second, found), True)
                inner = tuple(sum(corner[k] * common_bottom(found) // corner[2] for corner in found) for k in (0, 1))
                middle = point_of(*inner, common_bottom(found) * len(found))
                self.assertEqual((place(one, middle), place(other, middle)), (first, second))
                # a witness of a meet is none of another one
                for others in itertools.product(PLACES, repeat=2):
                    self.assertIs(is_witness(one, other, *others, found), others == (first, second))

    def test_is_witness(self):
        for numbers in MAPS:
            square, road, frame = [led_shape(numbers, shape) for shape in (SQUARE, ROAD, FRAME)]
            for shapes, places, corners, expected in (
                ((square, road), ("inside", "inside"), ((1, 2), (3, 2)), True),
                ((square, road), ("inside", "inside"), ((3, 2), (1, 2)), True),
                ((square, road), ("inside", "inside"), ((0, 2), (4, 2)), True),
                ((square, road), ("inside", "inside"), ((-1, 2), (4, 2)), False),
                ((square, road), ("inside", "inside"), ((1, 2), (3, 3)), False),
                ((square, road), ("inside", "inside"), ((1, 2),), True),
                ((square, road), ("inside", "inside"), ((0, 2),), False),
                ((square, road), ("inside", "inside"), ((1, 2), (2, 2), (3, 2)), False),
                ((square, road), ("border", "outside"), ((0, 0), (0, 4)), False),
                ((square, road), ("border", "outside"), ((0, 0), (0, 2)), True),
                ((square, road), ("border", "outside"), ((0, 0), (4, 0)), True),
                ((square, road), ("border", "outside"), ((0, 0), (5, 0)), False),
                ((square, road), ("border", "inside"), ((4, 2),), True),
                ((square, road), ("outside", "border"), ((5, 2),), True),
                ((square, road), ("outside", "outside"), ((9, 9),), True),
                ((square, road), ("outside", "outside"), ((5, 3), (5, 1)), False),
                ((square, road), ("inside", "outside"), ((0, 0), (4, 0), (4, 2)), True),
                ((square, road), ("inside", "outside"), ((4, 2), (4, 0), (0, 0)), True),
                ((square, road), ("inside", "outside"), ((0, 0), (4, 0), (4, 3)), False),
                ((square, road), ("inside", "outside"), ((0, 0), (2, 1), (4, 2)), False),
                ((square, road), ("outside", "outside"), ((4, 0), (8, 0), (8, 1)), True),
                ((square, frame), ("inside", "outside"), ((1, 1), (3, 1), (3, 3)), True),
                ((square, frame), ("inside", "outside"), ((1, 1), (3, 3)), True),
                ((square, frame), ("inside", "outside"), ((1, 1), (3, 1)), False),
                ((square, frame), ("inside", "inside"), ((0, 0), (4, 0), (0, 4)), False),
                ((square, frame), ("inside", "inside"), ((0, 0), (4, 0), (1, 1)), True),
            ):
                value = tuple(led(numbers, corner) for corner in corners)
                self.assertIs(is_witness(*shapes, *places, value), expected, (places, corners))

    def test_lone_points_in_the_way(self):
        self.assertIs(is_witness(SQUARE, WELL, "inside", "outside", ((1, 1, 1), (3, 3, 1))), False)
        self.assertIs(is_witness(SQUARE, WELL, "inside", "outside", ((1, 2, 1), (3, 1, 1), (3, 3, 1))), False)
        self.assertIs(is_witness(SQUARE, WELL, "inside", "outside", ((2, 2, 1), (3, 1, 1), (3, 3, 1))), True)
        self.assertIs(is_witness(SQUARE, WELL, "inside", "inside", ((2, 2, 1),)), True)
        self.assertEqual(witness(SQUARE, WELL, "inside", "inside"), ((2, 2, 1),))

    def test_no_witness(self):
        point = (1, 2, 1)
        for value in (None, True, 0, (), point, [point], ((1, 2),), (point, point), (point, None), (point, (3, 2, 1), (2, 1, 1), (2, 3, 1)),
                      "witness", {}, ((True, 2, 1),), ((2, 4, 2),), (point, point, (3, 2, 1)), SQUARE, *[(one,) for one in NO_POINTS]):
            self.assertIs(is_witness(SQUARE, ROAD, "inside", "inside", value), False, value)

    def test_far_witnesses(self):
        far = ((0, 0, 1), (4, 0, 1), (HUGE, -HUGE, 1))
        self.assertIs(is_witness(SQUARE, ROAD, "outside", "outside", far), True)
        found = witness(EMPTY, EMPTY, "outside", "outside")
        self.assertNotEqual(turn_of(*found), 0)

    def test_meet_shape(self):
        self.assertEqual(meet_shape(SQUARE, ROAD, "outside", "inside"), less(ROAD, SQUARE))
        self.assertEqual(meet_shape(FRAME, ROAD, "border", "inside"), dots((0, 2), (1, 2), (3, 2), (4, 2)))
        self.assertEqual(meet_shape(SQUARE, ROAD, "inside", "outside"), SQUARE)
        self.assertEqual(meet_shape(SQUARE, ROAD, "border", "border"), EMPTY)
        rows = random.Random(11)
        for _ in range(20):
            one, other = Shape(*random_told(rows)), Shape(*random_told(rows))
            inner = [meet_shape(one, other, first, second) for first in PLACES[:2] for second in PLACES[:2]]
            self.assertEqual(joint(*inner), common(one, other))
            outer = [meet_shape(one, other, first, "outside") for first in PLACES[:2]]
            self.assertEqual(joint(*outer), less(one, other))

    def test_wrong_places(self):
        wrong = (None, True, 0, "", "Inside", "within", ("inside",), ["inside"], SQUARE)
        for call, more in ((witness, ()), (is_witness, (None,)), (meet_shape, ())):
            for value in wrong:
                self.assertIsInstance(raised(call, SQUARE, ROAD, value, "inside", *more), InvalidOperation)
                self.assertIsInstance(raised(call, SQUARE, ROAD, "inside", value, *more), InvalidOperation)
                self.assertIsInstance(raised(call, RAILS, POSTS, "outside", value, *more), InvalidOperation)
                self.assertIsInstance(raised(call, SQUARE, None, value, value, *more), InvalidShape)
        self.assertIsInstance(raised(meet_shape, RAILS, POSTS, "outside", "outside"), InvalidOperation)
        self.assertIsInstance(raised(meet_shape, SQUARE, ROAD, "outside", "outside"), InvalidOperation)


def common_bottom(points):
    found = 1
    for point in points:
        found *= point[2]
    return found


if __name__ == "__main__":
    unittest.main()
