"""Questions: points 0.18, 13.1 and `nearest`."""

import functools
import random
import unittest
from fractions import Fraction

from tests.drawn_tables import COST, KINDS_OF, NAME, SPOT, WAY, WORTH, drawn_condition, drawn_shape, drawn_table
from tests.helpers import EMPTY, FRAME, HUGE, NO_INTEGERS, NO_SHAPES, ROAD, SQUARE, WELL, led_shape, raised
from tests.test_tables import MORE, NO_TABLES, SIXTY
from wherebase.errors import (
    InvalidCondition, InvalidNumber, InvalidOperation, InvalidQuestion, InvalidShape, InvalidTable, UnknownName,
)
from wherebase.measure.measures import square_distance
from wherebase.plan.questions import MAX_ORDER, answer, is_order, nearest
from wherebase.shape.shapes import area, dots, line
from wherebase.table.conditions import is_condition, term_value, truth
from wherebase.table.tables import Table

ALL = ("and",)
TABLE = Table({"name": "text", "worth": "number", "cost": "number", "spot": "shape", "way": "shape"})
for told in (
    {"name": "b", "worth": 2, "cost": 1, "spot": SQUARE}, {"name": "a", "worth": 2, "spot": WELL, "cost": 1},
    {"worth": -5, "name": "B", "spot": EMPTY, "cost": 3}, {"name": "", "worth": HUGE, "spot": ROAD},
    {"name": "a", "cost": 1}, {"name": "ab", "worth": 2, "cost": 0, "spot": FRAME, "way": WELL},
):
    TABLE = TABLE.put(told)

NO_ORDERS = (
    None, True, 5, "up", [], {}, ((WORTH, "up"), None), (WORTH, "up"), ((WORTH, "up", "up"),), ((WORTH,),),
    ([WORTH, "up"],), ((WORTH, "Up"),), ((WORTH, "down "),), ((WORTH, True),), ((WORTH, None),), ((WORTH, ["up"]),),
    ((SPOT, "up"),), ((("column", "no"), "up"),), ((("column", ["name"]), "up"),), ((None, "up"),), (("up", WORTH),),
    ((("value", None), "up"),), ((("value", SQUARE), "up"),), ((("area", WORTH), "up"),), (("", ""),), ("up",),
    ((ALL, "up"),), ((WORTH, "up"),) * 5, ((WORTH, "up"),) * 4 + ((WORTH, "no"),), ((WORTH, SQUARE),),
    ((WORTH, "up"), (SPOT, "up")),
)


def answer_told(table, condition, order, limit):
    """The answer by the words of 13.1: rows that are asked one by one, and a plain sort."""

    def follows(one, other):
        for term, way in order:
            value, second = term_value(table, term, one), term_value(table, term, other)
            if (value is None) != (second is None):
                return 1 if value is None else -1
            if value is not None and value != second:
                if isinstance(value, tuple):
                    value, second = Fraction(*value), Fraction(*second)
                is_before = value < second if way == "up" else value > second
                return -1 if is_before else 1
        return one - other

    found = sorted([number for number in table if truth(table, condition, number) is True],
        key=functools.cmp_to_key(follows))
    return tuple(found if limit is None else found[:limit])


class AnswerTest(unittest.TestCase):
    def check(self, expected, condition=ALL, **more):
        self.assertEqual(answer(TABLE, condition, **more), expected)
        self.assertEqual(answer_told(TABLE, condition, more.get("order", ()), more.get("limit")), expected)

    def test_conditions(self):
        self.check((1, 2, 3, 4, 5, 6))
        self.check((), ("or",))
        self.check((1, 2, 6), ("same", WORTH, ("value", 2)))
        self.check((1, 4, 6), ("meets", SPOT, ("value", dots((0, 2)))))
        # unknown is neither true nor false
        self.check((2, 3), ("not", ("meets", SPOT, ("value", dots((0, 2))))))
        self.check((5,), ("missing", SPOT))
        self.assertEqual(answer(TABLE.without(2, 5), ALL), (1, 3, 4, 6))
        self.assertEqual(answer(Table(KINDS_OF), ALL, order=((WORTH, "up"),), limit=3), ())

    def test_orders(self):
        for order, expected in (
            (((WORTH, "up"),), (3, 1, 2, 6, 4, 5)), (((WORTH, "down"),), (4, 1, 2, 6, 3, 5)),
            (((NAME, "up"),), (4, 3, 2, 5, 6, 1)), (((NAME, "down"),), (1, 6, 2, 5, 3, 4)),
            (((COST, "up"),), (6, 1, 2, 5, 3, 4)), (((COST, "down"),), (3, 1, 2, 5, 6, 4)),
            (((COST, "up"), (NAME, "up")), (6, 2, 5, 1, 3, 4)), (((COST, "down"), (NAME, "down")), (3, 1, 2, 5, 6, 4)),
            (((COST, "up"), (WORTH, "down"), (NAME, "up")), (6, 2, 1, 5, 3, 4)),
            (((("area", SPOT), "down"),), (1, 6, 2, 3, 4, 5)),
            (((("area", SPOT), "up"), (WORTH, "down")), (4, 2, 3, 6, 1, 5)),
            (((("square", SPOT, ("value", dots((4, 2)))), "up"),), (1, 4, 6, 2, 3, 5)),
            (((("square", SPOT, ("value", dots((4, 3)))), "down"),), (2, 4, 1, 6, 3, 5)),
            (((("value", (1, 2)), "up"), (NAME, "down")), (1, 6, 2, 5, 3, 4)),
            (((("value", "x"), "down"),), (1, 2, 3, 4, 5, 6)),
            (((WORTH, "up"), (WORTH, "down"), (COST, "up"), (NAME, "up")), (3, 6, 2, 1, 4, 5)),
        ):
            self.assertIs(is_order(TABLE, order), True)
            self.check(expected, order=order)

    def test_limits(self):
        for limit in (0, 1, 3, 5, 6, 7, HUGE, None):
            self.check((3, 1, 2, 6, 4, 5)[:limit], order=((WORTH, "up"),), limit=limit)
        self.check((1, 2), ("same", WORTH, ("value", 2)), limit=2)

    def test_drawn(self):
        rows = random.Random(130)
        terms = [WORTH, COST, NAME, ("area", SPOT), ("square", SPOT, WAY), ("value", "b"), ("value", (2, 3))]
        for _ in range(60):
            table = drawn_table(rows, rows.randint(0, 12))
            condition = drawn_condition(rows, rows.randint(0, 3))
            if not is_condition(table, condition):
                continue
            order = tuple((rows.choice(terms), rows.choice(["up", "down"])) for _ in range(rows.randint(0, 4)))
            limit = rows.choice([None, None, 0, 1, 3, 12])
            found = answer(table, condition, order=order, limit=limit)
            self.assertEqual(found, answer_told(table, condition, order, limit))

    def test_great_numbers(self):
        table = Table({"worth": "number", "spot": "shape"})
        for k in (3, 1, 2):
            table = table.put({"worth": HUGE + k, "spot": dots((HUGE + k, HUGE, HUGE + 7))})
        table = table.put({"worth": -HUGE})
        square = ("square", ("column", "spot"), ("value", dots((0, 0))))
        self.assertEqual(answer(table, ALL, order=((WORTH, "up"),)), (4, 2, 3, 1))
        self.assertEqual(answer(table, ALL, order=((WORTH, "down"),)), (1, 3, 2, 4))
        self.assertEqual(answer(table, ALL, order=((square, "up"),)), (2, 3, 1, 4))
        self.assertEqual(answer(table, ALL, order=((square, "down"),)), (1, 3, 2, 4))

    def test_opposites(self):
        # rows that do not answer a question need not answer its opposite
        condition = ("less", WORTH, COST)
        found, opposite = answer(TABLE, condition), answer(TABLE, ("not", condition))
        self.assertNotEqual(tuple(sorted(found + opposite)), TABLE.numbers)

    def test_wrong_arguments(self):
        wrong_order, wrong_limit = ((SPOT, "up"),), -1
        for table in NO_TABLES:
            self.assertIsInstance(raised(answer, table, None, order=wrong_order, limit=wrong_limit), InvalidTable)
        for condition in (None, SPOT, ("no",), [ALL]):
            self.assertIsInstance(raised(answer, TABLE, condition, order=wrong_order, limit=wrong_limit),
                InvalidCondition)
        for order in NO_ORDERS:
            self.assertIsInstance(raised(answer, TABLE, ALL, order=order, limit=wrong_limit), InvalidQuestion)
            self.assertIsInstance(raised(answer, TABLE, ALL, order=order), InvalidQuestion)
        for limit in (*NO_INTEGERS, -1, -HUGE):
            if limit is not None:
                error = raised(answer, TABLE, ALL, limit=limit)
                self.assertIsInstance(error, InvalidNumber)
                self.assertIs(error.value, limit)


class OrderTest(unittest.TestCase):
    def test_orders(self):
        self.assertEqual(MAX_ORDER, 4)
        for order in ((), ((WORTH, "up"),), ((NAME, "down"),) * 4,
            ((("area", SPOT), "up"), (("square", SPOT, WAY), "down"))):
            self.assertIs(is_order(TABLE, order), True)
        for order in NO_ORDERS:
            self.assertIs(is_order(TABLE, order), False, order)
        self.assertIs(is_order(Table({"name": "shape"}), ((NAME, "up"),)), False)
        self.assertIs(is_order(Table({"name": "shape"}), ((("area", NAME), "up"),)), True)

    def test_tables(self):
        for table in NO_TABLES:
            self.assertIsInstance(raised(is_order, table, ()), InvalidTable)
            self.assertIsInstance(raised(is_order, table, None), InvalidTable)


class NearestTest(unittest.TestCase):
    def test_nearest(self):
        for shape, count, expected in (
            (dots((5, 5)), 9, ((1, (2, 1)), (6, (2, 1)), (4, (9, 1)), (2, (18, 1)))),
            (dots((5, 5)), 2, ((1, (2, 1)), (6, (2, 1)))), (dots((5, 5)), 1, ((1, (2, 1)),)), (dots((5, 5)), 0, ()),
            (WELL, 9, ((1, (0, 1)), (2, (0, 1)), (4, (0, 1)), (6, (1, 1)))), (EMPTY, 9, ()), (EMPTY, 0, ()),
            (dots((2, 2, 1), (5, 8, 4)), 4, ((1, (0, 1)), (2, (0, 1)), (4, (0, 1)), (6, (1, 16)))),
            (WELL, HUGE, ((1, (0, 1)), (2, (0, 1)), (4, (0, 1)), (6, (1, 1)))),
        ):
            self.assertEqual(nearest(TABLE, "spot", shape, count), expected)
        self.assertEqual(nearest(TABLE, "way", SQUARE, 5), ((6, (0, 1)),))
        self.assertEqual(nearest(TABLE.without(1), "spot", dots((5, 5)), 1), ((6, (2, 1)),))

    def test_drawn(self):
        rows = random.Random(131)
        for _ in range(40):
            table, shape, count = drawn_table(rows, rows.randint(0, 12)), drawn_shape(rows), rows.randint(0, 14)
            found = []
            for number in table:
                other = table.row(number)["spot"]
                if shape and other:
                    square = square_distance(shape, other)
                    found.append((Fraction(*square), number, square))
            told = tuple((number, square) for _, number, square in sorted(found)[:count])
            self.assertEqual(nearest(table, "spot", shape, count), told)

    def test_maps_change_the_nearest(self):
        table = Table({"spot": "shape"}).put({"spot": dots((3, 0))}).put({"spot": dots((0, 2))})
        numbers = (1, 0, 0, 4, 0, 0, 1)
        image = Table({"spot": "shape"})
        for number in table:
            image = image.put({"spot": led_shape(numbers, table.row(number)["spot"])})
        self.assertEqual(nearest(table, "spot", dots((0, 0)), 1)[0][0], 2)
        self.assertEqual(nearest(image, "spot", dots((0, 0)), 1)[0][0], 1)

    def test_wrong_arguments(self):
        for table in NO_TABLES:
            self.assertIsInstance(raised(nearest, table, "no", None, None), InvalidTable)
        for column in (None, "no", "Spot", 5, ("spot",), ["spot"], {}, SQUARE, SPOT):
            error = raised(nearest, TABLE, column, None, None)
            self.assertIsInstance(error, UnknownName)
            self.assertIs(error.name, column)
        for column in ("spot", "worth"):
            for shape in (*NO_SHAPES, MORE, TABLE):
                self.assertIsInstance(raised(nearest, TABLE, column, shape, None), InvalidShape)
            for count in (*NO_INTEGERS, -1):
                error = raised(nearest, TABLE, column, SIXTY, count)
                self.assertIsInstance(error, InvalidNumber)
                self.assertIs(error.value, count)
        for column in ("worth", "name"):
            self.assertIsInstance(raised(nearest, TABLE, column, EMPTY, 0), InvalidOperation)
        self.assertEqual(nearest(Table({"spot": "shape"}).put({"spot": SIXTY}), "spot", SIXTY, 1), ((1, (0, 1)),))
        self.assertEqual(nearest(TABLE, "spot", line((9, 0), (9, 1)), 1), ((4, (17, 1)),))
        self.assertEqual(nearest(TABLE, "spot", area((9, 0), (9, 4), (12, 2)), 1), ((4, (16, 1)),))


if __name__ == "__main__":
    unittest.main()
