"""Terms and conditions: points 0.18 and 12.2 to 12.4."""

import itertools
import random
import unittest
from fractions import Fraction

from tests.helpers import EMPTY, FRAME, HUGE, MAPS, NO_INTEGERS, NO_SHAPES, ROAD, SQUARE, WELL, led_shape, raised
from tests.test_tables import MORE, NO_TABLES, SIXTY
from wherebase.errors import InvalidCondition, InvalidNumber, InvalidTable
from wherebase.measure.measures import area_of, square_distance
from wherebase.meet.meets import RELATIONS, is_related
from wherebase.shape.shapes import area, dots, line
from wherebase.table.conditions import (
    MAX_DEPTH, MAX_PARTS, is_condition, is_term, moved_inwards, term_value, truth, truths,
)
from wherebase.table.tables import Table

TABLE = Table({"name": "text", "other": "text", "spot": "shape", "way": "shape", "worth": "number", "cost": "number"})
TABLE = TABLE.put({"name": "green", "other": "green", "spot": SQUARE, "way": ROAD, "worth": 5, "cost": 7})
TABLE = TABLE.put({"name": "well", "other": "a", "spot": WELL, "way": FRAME, "worth": -3, "cost": -3})
TABLE = TABLE.put({"name": "", "spot": EMPTY, "way": EMPTY, "worth": 0})
TABLE = TABLE.put({})
SPOT, WAY, WORTH, COST, NAME, OTHER = [("column", name) for name in ("spot", "way", "worth", "cost", "name", "other")]
TRUE, FALSE, UNKNOWN = ("and",), ("or",), ("less", WORTH, COST)


def value(told):
    return ("value", told)


def chain(count):
    """An "and" of so many terms and conditions, an odd number."""
    return ("and", *[("missing", WORTH)] * ((count - 1) // 2))


def deep(levels, inner):
    for _ in range(levels):
        inner = ("not", inner)
    return inner


def parts_of(condition):
    """All terms and conditions in a condition."""
    if condition[0] in ("not", "and", "or"):
        return [condition, *[part for inner in condition[1:] for part in parts_of(inner)]]
    terms = condition[1:3]
    return [condition, *terms, *[inner for term in terms if term[0] in ("area", "square") for inner in term[1:]]]


def depth_of(condition):
    if condition[0] in ("not", "and", "or"):
        return 1 + max([depth_of(inner) for inner in condition[1:]], default=0)
    return 3 if any(term[0] in ("area", "square") for term in condition[1:3]) else 2


def random_condition(rows, levels):
    kind = rows.choice(["not", "and", "or", "plain"]) if levels else "plain"
    if kind == "not":
        return ("not", random_condition(rows, levels - 1))
    if kind in ("and", "or"):
        return (kind, *[random_condition(rows, levels - 1) for _ in range(rows.randint(0, 3))])
    return rows.choice([
        ("missing", NAME), ("same", NAME, OTHER), ("less", WORTH, COST), ("less", value((1, 2)), WORTH),
        ("meets", SPOT, WAY),
        ("near", SPOT, value(WELL), 2), ("less", ("area", SPOT), value(9)), ("apart", WAY, SPOT), TRUE, FALSE,
    ])


class TermsTest(unittest.TestCase):
    def test_columns_and_values(self):
        for term, expected in (
            (NAME, ["green", "well", "", None]), (WORTH, [(5, 1), (-3, 1), (0, 1), None]),
            (SPOT, [SQUARE, WELL, EMPTY, None]),
            (value(7), [(7, 1)] * 4), (value((-1, 2)), [(-1, 2)] * 4), (value((4, 1)), [(4, 1)] * 4),
            (value("x y~"), ["x y~"] * 4), (value(""), [""] * 4),
            (value(SIXTY), [SIXTY] * 4), (value(EMPTY), [EMPTY] * 4), (value(HUGE), [(HUGE, 1)] * 4),
            (value("x" * 40), ["x" * 40] * 4),
            (("area", SPOT), [(16, 1), (0, 1), (0, 1), None]), (("area", value(FRAME)), [(12, 1)] * 4),
            (("area", value(ROAD)), [(0, 1)] * 4),
            (("square", SPOT, WAY), [(0, 1), (1, 1), None, None]),
            (("square", SPOT, value(dots((7, 6)))), [(13, 1), (41, 1), None, None]),
            (("square", value(EMPTY), SPOT), [None] * 4), (("square", value(WELL), value(dots((0, 0)))), [(8, 1)] * 4),
        ):
            self.assertIs(is_term(TABLE, term), True)
            self.assertEqual([term_value(TABLE, term, number) for number in TABLE], expected)
        half = area((0, 0, 1), (1, 0, 2), (0, 1, 3))
        self.assertEqual(term_value(TABLE, ("area", value(half)), 4), (1, 12))
        for numbers in MAPS:
            image = TABLE.change(1, {"spot": led_shape(numbers, FRAME), "way": led_shape(numbers, WELL)})
            self.assertEqual(term_value(image, ("area", SPOT), 1), area_of(led_shape(numbers, FRAME)))
            self.assertEqual(term_value(image, ("square", SPOT, WAY), 1),
                square_distance(led_shape(numbers, FRAME), led_shape(numbers, WELL)))

    def test_no_terms(self):
        wrong = [*NO_SHAPES, SQUARE, 5, "spot", ("column",), ("column", "name", "name"), ("column", "no"),
            ("column", "Name"), ("column", ["name"]), ("column", None)]
        wrong += [("column", NAME), ["column", "name"], ("Column", "name"), ("value",), ("value", 1, 2), ("value", None),
            ("value", True), ("value", False)]
        wrong += [("value", told) for told in ((2, 4), (1, 0), (1, -2), (1, True), [1, 2], (1, 2, 3), (), {}, [], "x" * 41,
            "a\n", "\u00e9", MORE, SQUARE.form, TABLE)]
        wrong += [("area",), ("area", NAME), ("area", WORTH), ("area", SPOT, SPOT), ("area", ("area", SPOT)),
            ("area", SQUARE), ("area", value(5)), ("area", None)]
        wrong += [("square",), ("square", SPOT), ("square", SPOT, WORTH), ("square", NAME, SPOT),
            ("square", SPOT, WAY, SPOT), ("square", SPOT, ("area", SPOT))]
        wrong += [("square", SPOT, [("column", "spot")]), ("missing", SPOT), ("and",), (("column", "spot"),),
            (("area", SPOT), SPOT), (1, 2), (["area"], SPOT), (SQUARE, SQUARE)]
        for term in wrong:
            self.assertIs(is_term(TABLE, term), False, term)
            self.assertIsInstance(raised(term_value, TABLE, term, 1), InvalidCondition)
            self.assertIsInstance(raised(term_value, TABLE, term, 99), InvalidCondition)
            self.assertIs(is_condition(TABLE, ("missing", term)), False)

    def test_other_tables(self):
        small = Table({"name": "shape"})
        self.assertIs(is_term(small, ("area", NAME)), True)
        self.assertIs(is_term(small, WORTH), False)
        self.assertIs(is_term(small, value(5)), True)


class ConditionsTest(unittest.TestCase):
    def check(self, condition, expected):
        self.assertIs(is_condition(TABLE, condition), True, condition)
        found = truths(TABLE, condition)
        self.assertEqual(list(found), [1, 2, 3, 4])
        self.assertEqual([repr(one) for one in found.values()], [repr(one) for one in expected], condition)
        self.assertEqual([truth(TABLE, condition, number) for number in TABLE], expected)

    def test_plain_conditions(self):
        for condition, expected in (
            (("missing", NAME), [False, False, False, True]), (("missing", OTHER), [False, False, True, True]),
            (("missing", value(5)), [False] * 4),
            (("missing", ("area", SPOT)), [False, False, False, True]),
            (("missing", ("square", SPOT, WAY)), [False, False, True, True]),
            (("same", NAME, OTHER), [True, False, None, None]), (("same", WORTH, COST), [False, True, None, None]),
            (("same", SPOT, value(SQUARE)), [True, False, False, None]),
            (("same", WORTH, value((5, 1))), [True, False, False, None]), (("same", value(5), value((5, 1))), [True] * 4),
            (("same", SPOT, WAY), [False, False, True, None]),
            (("same", ("area", SPOT), value(16)), [True, False, False, None]),
            (("same", value((1, 2)), value(0)), [False] * 4),
            (("less", WORTH, COST), [True, False, None, None]), (("less", value((9, 2)), WORTH), [True, False, False, None]),
            (("less", WORTH, value((11, 2))), [True, True, True, None]),
            (("less", OTHER, NAME), [False, True, None, None]), (("less", NAME, value("h")), [True, False, True, None]),
            (("less", value(""), value(" ")), [True] * 4),
            (("less", value("Z"), value("a")), [True] * 4), (("less", value(HUGE), value(HUGE + 1)), [True] * 4),
            (("less", ("square", SPOT, WAY), value(1)), [True, False, None, None]),
            (("less", ("area", SPOT), ("area", WAY)), [False, True, False, None]),
            (("near", SPOT, WAY, 0), [True, False, False, None]), (("near", SPOT, WAY, (0, 1)), [True, False, False, None]),
            (("near", SPOT, WAY, 1), [True, True, False, None]),
            (("near", SPOT, value(dots((7, 6))), (25, 2)), [False, False, False, None]),
            (("near", SPOT, value(dots((7, 6))), 13), [True, False, False, None]),
            (("near", value(WELL), value(dots((3, 3))), (2, 1)), [True] * 4),
            (("near", SPOT, value(EMPTY), 100), [False, False, False, None]),
            (("within", value(EMPTY), SPOT), [True, True, True, None]),
            (("apart", SPOT, value(EMPTY)), [True, True, True, None]),
            (("meets", WAY, value(WELL)), [True, False, False, None]),
        ):
            self.check(condition, expected)

    def test_relations(self):
        shapes = (SQUARE, FRAME, ROAD, WELL, EMPTY, line((2, 0), (2, 9)))
        for name, one, other in itertools.product(RELATIONS, shapes, shapes):
            table = TABLE.change(1, {"spot": one, "way": other})
            self.assertIs(truth(table, (name, SPOT, WAY), 1), is_related(one, other, name))
            self.assertIsNone(truth(table, (name, SPOT, WAY), 4))

    def test_three_values(self):
        told = {True: TRUE, False: FALSE, None: UNKNOWN}
        self.assertEqual([truth(TABLE, told[key], 4) for key in told], [True, False, None])
        for one, other in itertools.product(told, told):
            found = [truth(TABLE, (word, told[one], told[other]), 4) for word in ("and", "or")]
            both = False if False in (one, other) else None if None in (one, other) else True
            some = True if True in (one, other) else None if None in (one, other) else False
            self.assertEqual(found, [both, some])
        self.assertEqual([truth(TABLE, ("not", told[key]), 4) for key in told], [False, True, None])
        self.check(("and",), [True] * 4)
        self.check(("or",), [False] * 4)
        for word in ("and", "or"):
            self.check((word, UNKNOWN), [True, False, None, None])
        self.check(("or", UNKNOWN, ("not", UNKNOWN)), [True, True, None, None])
        self.check(("and", UNKNOWN, ("not", UNKNOWN)), [False, False, None, None])

    def test_rules_of_words(self):
        told = (TRUE, FALSE, UNKNOWN)
        for a, b, c in itertools.product(told, told, told):
            for one, other in (
                (("not", ("and", a, b)), ("or", ("not", a), ("not", b))),
                (("not", ("or", a, b)), ("and", ("not", a), ("not", b))), (("not", ("not", a)), a),
                (("and", a, ("or", b, c)), ("or", ("and", a, b), ("and", a, c))),
                (("or", a, ("and", b, c)), ("and", ("or", a, b), ("or", a, c))),
            ):
                self.assertEqual(truths(TABLE, one), truths(TABLE, other))

    def test_no_conditions(self):
        wrong = [*NO_SHAPES, SQUARE, SPOT, value(5), ("and", None), ("and", SPOT), ("or", TRUE, SPOT), ("not",),
            ("not", TRUE, TRUE), ("not", None), ["and"], ("and", ["or"]), ("xor", TRUE, TRUE)]
        wrong += [("And",), ("missing",), ("missing", SPOT, SPOT), ("missing", TRUE), ("missing", [*SPOT]), ("same", SPOT),
            ("same", SPOT, WORTH), ("same", NAME, SPOT), ("same", WORTH, NAME)]
        wrong += [("same", SPOT, SPOT, SPOT), ("same", value(None), value(None)), ("less", SPOT, WAY), ("less", NAME, WORTH),
            ("less", NAME), ("less", NAME, NAME, NAME), ("less", ("area", SPOT), NAME)]
        wrong += [(name, SPOT, NAME) for name in RELATIONS] + [(name, SPOT) for name in RELATIONS] + [(name, SPOT, WAY,
            1) for name in RELATIONS] + [("Meets", SPOT, WAY), ("beside", SPOT, WAY)]
        wrong += [("near", SPOT, WAY, told) for told in (-1, True, False, None, "1", (1, -1), (2, 2), (-1, 2), [1, 2], (1,),
            (1, 2, 3), WORTH, SQUARE)]
        wrong += [("near", SPOT, WAY), ("near", SPOT, WORTH, 1), ("near", NAME, SPOT, 1), ("near", SPOT, WAY, 1, 1),
            (1, SPOT, WAY), (None,), (("and",),), (["and"], TRUE), (SQUARE, SPOT, WAY)]
        wrong += [("missing", ("column", "no")), ("same", ("column", "no"), ("column", "no")),
            ("and", *[("missing", ("column", "no"))])]
        for condition in wrong:
            self.check_no_condition(condition)
            self.check_no_condition(("and", TRUE, condition, TRUE))

    def check_no_condition(self, condition):
        self.assertIs(is_condition(TABLE, condition), False, condition)
        for number in (1, 99, None):
            self.assertIsInstance(raised(truth, TABLE, condition, number), InvalidCondition)
        self.assertIsInstance(raised(truths, TABLE, condition), InvalidCondition)
        self.assertIsInstance(raised(moved_inwards, TABLE, condition), InvalidCondition)


class SizeTest(unittest.TestCase):
    def test_parts(self):
        self.assertEqual((MAX_PARTS, MAX_DEPTH), (60, 8))
        sixty = ("and", chain(57), TRUE)
        self.assertEqual(len(parts_of(sixty)), 59)
        square = ("less", ("square", SPOT, WAY), ("area", SPOT))
        self.assertEqual(len(parts_of(square)), 6)
        for condition, count in (
            (("and", chain(57), TRUE, FALSE), 60), (("and", chain(57), TRUE, FALSE, TRUE), 61),
            (("and", *[square] * 9, ("same", SPOT, WAY), TRUE, TRUE), 60),
            (("and", *[square] * 9, ("same", SPOT, WAY), TRUE, ("missing", SPOT)), 61), (("or", *[TRUE] * 59), 60),
            (("or", *[TRUE] * 60), 61), (chain(59), 59), (chain(61), 61),
            (("not", chain(59)), 60), (("not", ("not", chain(59))), 61), (("and", *[TRUE] * 5000), 5001),
        ):
            self.assertEqual(len(parts_of(condition)), count)
            self.assertIs(is_condition(TABLE, condition), count <= 60)
            self.assertEqual(isinstance(raised(truths, TABLE, condition), InvalidCondition), count > 60)

    def test_depth(self):
        for condition, depth in (
            (deep(7, TRUE), 8), (deep(8, TRUE), 9), (deep(6, ("missing", SPOT)), 8), (deep(7, ("missing", SPOT)), 9),
            (deep(5, ("missing", ("area", SPOT))), 8),
            (deep(6, ("missing", ("area", SPOT))), 9), (deep(5, ("less", WORTH, ("square", SPOT, WAY))), 8),
            (deep(6, ("less", WORTH, ("square", SPOT, WAY))), 9),
            (deep(6, ("near", SPOT, WAY, (1, 2))), 8), (deep(6, ("same", value((1, 2)), value((1, 2)))), 8),
            (deep(200, TRUE), 201),
        ):
            self.assertEqual(depth_of(condition), depth)
            self.assertIs(is_condition(TABLE, condition), depth <= 8)

    def test_shared_tuples(self):
        condition = TRUE
        for _ in range(7):
            condition = ("and", *[condition] * 50)
        self.assertIs(is_condition(TABLE, condition), False)


class MovedInwardsTest(unittest.TestCase):
    def test_moved(self):
        cheap, near = ("less", WORTH, value(5)), ("near", SPOT, WAY, 1)
        for condition, expected in (
            (cheap, cheap), (("not", cheap), ("not", cheap)), (("not", ("not", cheap)), cheap),
            (deep(5, cheap), ("not", cheap)), (("not", TRUE), FALSE), (("not", FALSE), TRUE),
            (("not", ("and", cheap, ("not", near))), ("or", ("not", cheap), near)),
            (("not", ("or", cheap, ("and", near, cheap))), ("and", ("not", cheap), ("or", ("not", near), ("not", cheap)))),
            (("and", ("not", ("or", cheap)), near), ("and", ("and", ("not", cheap)), near)),
            (("not", ("not", ("and", cheap, near))), ("and", cheap, near)),
            (("and", ("and",), ("not", ("and", ("or",)))), ("and", ("and",), ("or", ("and",)))),
        ):
            self.assertEqual(moved_inwards(TABLE, condition), expected)

    def test_random(self):
        rows = random.Random(71)
        for _ in range(300):
            condition = random_condition(rows, rows.randint(0, 4))
            if len(parts_of(condition)) > 60:
                continue
            error = raised(moved_inwards, TABLE, condition)
            if error is not None:
                self.assertEqual(error.limit, 60)
                continue
            found = moved_inwards(TABLE, condition)
            self.assertEqual(truths(TABLE, found), truths(TABLE, condition))
            self.assertEqual(moved_inwards(TABLE, found), found)
            self.assertLessEqual(depth_of(found), depth_of(condition))
            self.assertIs(is_condition(TABLE, found), True)
            for part in parts_of(found):
                if part[0] == "not":
                    self.assertNotIn(part[1][0], ("not", "and", "or"))
            opposite = ("not", condition)
            if is_condition(TABLE, opposite) and raised(moved_inwards, TABLE, opposite) is None:
                self.assertEqual(truths(TABLE, moved_inwards(TABLE, opposite)), truths(TABLE, opposite))

    def test_too_many(self):
        for count, limit in ((19, None), (20, 60)):
            condition = ("not", ("and", *[("missing", WORTH)] * count))
            self.assertIs(is_condition(TABLE, condition), True)
            error = raised(moved_inwards, TABLE, condition)
            self.assertEqual(error and error.limit, limit)
            if limit is None:
                self.assertEqual(len(parts_of(moved_inwards(TABLE, condition))), 58)
        exact = ("and", ("not", ("and", *[("missing", WORTH)] * 19)), TRUE)
        self.assertEqual(len(parts_of(moved_inwards(TABLE, exact))), 60)
        self.assertEqual(raised(moved_inwards, TABLE, (*exact, TRUE)).limit, 60)


class WrongArgumentsTest(unittest.TestCase):
    def test_tables(self):
        for table in NO_TABLES:
            for told in (SPOT, TRUE, None):
                for call in (is_term, is_condition, truths, moved_inwards):
                    self.assertIsInstance(raised(call, table, told), InvalidTable)
                for call in (term_value, truth):
                    self.assertIsInstance(raised(call, table, told, None), InvalidTable)

    def test_numbers(self):
        table = TABLE.without(2)
        for number in (*NO_INTEGERS, 0, 2, 5, -1, HUGE):
            for call, told in ((term_value, WORTH), (truth, TRUE), (truth, UNKNOWN)):
                error = raised(call, table, told, number)
                self.assertIsInstance(error, InvalidNumber)
                self.assertIs(error.value, number)

    def test_fractions_beside_integers(self):
        rows = random.Random(72)
        for _ in range(100):
            one, other = [Fraction(rows.randint(-9, 9), rows.randint(1, 4)) for _ in range(2)]
            told = [value(rows.choice([part.as_integer_ratio(),
                int(part)]) if part.denominator == 1 else part.as_integer_ratio()) for part in (one, other)]
            self.assertIs(truth(TABLE, ("less", *told), 4), one < other)
            self.assertIs(truth(TABLE, ("same", *told), 4), one == other)


if __name__ == "__main__":
    unittest.main()
