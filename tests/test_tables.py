"""Tables: points 0.18 and 12.1."""

import random
import unittest

from tests.helpers import EMPTY, FRAME, HUGE, NO_INTEGERS, NO_SHAPES, ROAD, SQUARE, WELL, raised
from wherebase.errors import InvalidNumber, InvalidRow, InvalidTable
from wherebase.maps.maps import same
from wherebase.shape.shapes import Shape, area, dots, line
from wherebase.table.tables import KINDS, MAX_COLUMNS, MAX_ROWS, MAX_SIZE, MAX_TEXT, Table
from wherebase.tree.trees import Tree

KINDS_OF = {"worth": "number", "name": "text", "spot": "shape"}
LOTS = Table(KINDS_OF).put({"name": "green", "spot": SQUARE, "worth": 5}).put({"spot": WELL}).put({})
EMPTY_ROW = {"name": None, "spot": None, "worth": None}
SIXTY, MORE = dots(*[(k, 0) for k in range(60)]), dots(*[(k, 0) for k in range(61)])
EVERY_SIGN = "".join(chr(code) for code in range(32, 127))
NO_TABLES = (*NO_SHAPES, SQUARE, KINDS_OF, LOTS.rows, Tree(), same(), Table)


class TableTest(unittest.TestCase):
    def test_constants(self):
        self.assertEqual((MAX_COLUMNS, MAX_ROWS, MAX_SIZE, MAX_TEXT, KINDS), (8, 60, 60, 40, ("number", "shape", "text")))

    def test_properties(self):
        table = Table(KINDS_OF)
        self.assertEqual((table.columns, table.numbers, table.rows, table.next_number),
            (("name", "spot", "worth"), (), {}, 1))
        self.assertEqual(list(table.kinds.items()), [("name", "text"), ("spot", "shape"), ("worth", "number")])
        self.assertEqual((len(table), list(table), str(table)), (0, [], "table of 3 columns: 0 rows"))
        self.assertEqual((LOTS.numbers, LOTS.next_number, len(LOTS), list(LOTS)), ((1, 2, 3), 4, 3, [1, 2, 3]))
        self.assertEqual(LOTS.rows,
            {1: {"name": "green", "spot": SQUARE, "worth": 5}, 2: {**EMPTY_ROW, "spot": WELL}, 3: EMPTY_ROW})
        self.assertEqual([list(row) for row in LOTS.rows.values()], [["name", "spot", "worth"]] * 3)
        self.assertEqual(list(LOTS.put({"worth": 1, "name": "x"}).row(4)), ["name", "spot", "worth"])
        self.assertEqual(str(Table({"a": "text"}).put({})), "table of 1 columns: 1 rows")
        self.assertEqual(len(Table({letter: "number" for letter in "hgfedcba"}).columns), 8)

    def test_edits(self):
        table = LOTS.change(2, {"worth": 4, "spot": None})
        self.assertEqual(table.row(2), {**EMPTY_ROW, "worth": 4})
        self.assertEqual(table.change(1, {}), table)
        self.assertEqual(LOTS.row(2), {**EMPTY_ROW, "spot": WELL})
        self.assertEqual(list(LOTS.change(1, {"worth": 9}).rows), [1, 2, 3])
        self.assertEqual((table.numbers, table.next_number), ((1, 2, 3), 4))
        gone = LOTS.without(3, 1, 3)
        self.assertEqual((gone.numbers, gone.next_number, gone.rows), ((2,), 4, {2: LOTS.row(2)}))
        again = gone.put({"worth": 1})
        self.assertEqual((again.numbers, again.row(4)["worth"], again.next_number), ((2, 4), 1, 5))
        self.assertEqual(LOTS.without(), LOTS)
        self.assertEqual(LOTS.without(1, 2, 3).put({}).numbers, (4,))

    def test_random_edits(self):
        rows = random.Random(70)
        for _ in range(10):
            table, told, following = Table({"a": "number", "b": "text"}), {}, 1
            for _ in range(60):
                values = {column: value for column,
                    value in (("a", rows.choice([None, 1, HUGE])),
                        ("b", rows.choice([None, "x", ""]))) if rows.random() < 0.6}
                elder, elder_rows = table, {number: dict(row) for number, row in told.items()}
                number = rows.choice([0, *told, following])
                kind = rows.choice(["put", "put", "change", "without"])
                if kind == "put":
                    table = table.put(values)
                    told[following] = {"a": None, "b": None, **values}
                    following += 1
                elif number not in told:
                    args = (number, values) if kind == "change" else (number,)
                    self.assertIsInstance(raised(getattr(table, kind), *args), InvalidNumber)
                elif kind == "change":
                    table = table.change(number, values)
                    told[number] = {**told[number], **values}
                else:
                    table = table.without(number)
                    del told[number]
                self.assertEqual((table.rows, table.numbers, table.next_number), (told, tuple(sorted(told)), following))
                self.assertEqual(elder.rows, elder_rows)

    def test_values(self):
        table = Table(KINDS_OF)
        for column, value in (
            ("worth", 0), ("worth", -HUGE), ("name", ""), ("name", "x" * 40), ("name", EVERY_SIGN[:40]),
            ("name", EVERY_SIGN[40:80]),
            ("name", EVERY_SIGN[80:]), ("name", "~ ~"), ("spot", EMPTY), ("spot", SIXTY), ("spot", FRAME), ("spot", None),
        ):
            self.assertEqual(table.put({column: value}).row(1)[column], value)
            self.assertEqual(LOTS.change(2, {column: value}).row(2)[column], value)
        self.assertIsNot(table.put({"spot": EMPTY}).row(1)["spot"], None)

    def test_shapes_told_in_several_ways(self):
        ring = ((4, 4), (0, 4), (0, 0), (2, 0), (4, 0))
        one, other = area((0, 0), (4, 0), (4, 4), (0, 4)), Shape(((ring,),), (((1, 1), (2, 2)),), ())
        kinds = {"spot": "shape"}
        self.assertEqual(Table(kinds).put({"spot": one}), Table(kinds).put({"spot": other}))
        self.assertNotEqual(Table(kinds).put({"spot": one}), Table(kinds).put({"spot": FRAME}))

    def test_sixty_rows(self):
        table = Table(KINDS_OF)
        for number in range(1, 61):
            table = table.put({"worth": number})
        self.assertEqual((len(table), table.next_number), (60, 61))
        self.assertEqual(raised(table.put, {}).limit, 60)
        self.assertIsInstance(raised(table.put, {"worth": "x"}), InvalidRow)
        more = table.without(5).put({"name": "last"})
        self.assertEqual((len(more), more.next_number, more.numbers[-1]), (60, 62, 61))
        self.assertEqual(table.change(60, {"worth": 0}).row(60)["worth"], 0)

    def test_equal(self):
        self.assertEqual(LOTS,
            Table(dict(reversed(KINDS_OF.items()))).put({"spot": SQUARE, "worth": 5,
                "name": "green"}).put({"spot": WELL}).put({"name": None}))
        for other in (
            LOTS.put({}), LOTS.put({}).without(4), LOTS.without(3), LOTS.change(3, {"worth": 1}),
            LOTS.change(1, {"spot": ROAD}), Table(KINDS_OF),
            Table({"name": "text", "spot": "shape"}), Table({**KINDS_OF, "more": "text"}),
            Table({"name": "text", "spot": "shape", "worth": "text"}), *NO_TABLES,
        ):
            self.assertIs(LOTS == other, False)
            self.assertIs(LOTS != other, True)
            self.assertIs(other == LOTS, False)
        self.assertIs(LOTS != LOTS.change(1, {}), False)
        self.assertNotEqual(Table({"a": "text"}), Table({"a": "number"}))

    def test_contains(self):
        for number in (1, 2, 3):
            self.assertIs(number in LOTS, True)
        for value in (*NO_INTEGERS, 0, 4, -1, "name", [1], {1: 1}, LOTS):
            self.assertIs(value in LOTS, False)

    def test_no_shared_state(self):
        kinds, values = dict(KINDS_OF), {"worth": 1}
        table = Table(kinds)
        kinds["more"] = "text"
        table = table.put(values)
        values["worth"] = 2
        table.kinds.clear()
        table.rows.clear()
        table.rows[1]["worth"] = 3
        table.row(1)["worth"] = 4
        later = table.change(1, {"name": "x"})
        later.row(1).clear()
        self.assertEqual((table.kinds, table.rows), (KINDS_OF, {1: {**EMPTY_ROW, "worth": 1}}))
        self.assertEqual(later.row(1), {**EMPTY_ROW, "name": "x", "worth": 1})
        self.assertEqual((kinds, values), ({**KINDS_OF, "more": "text"}, {"worth": 2}))


class WrongTablesTest(unittest.TestCase):
    def test_kinds(self):
        wrong = [*NO_SHAPES, SQUARE, {}, {letter: "text" for letter in "abcdefghi"}, {"A": "text"}, {"": "text"},
            {1: "text"}, {"a": "Text"}]
        wrong += [{"a": kind} for kind in (*NO_SHAPES[1:3], None, 5, ["text"], ("text",), "", "row")] + [{"a": "text",
            None: "text"}, ["a"], (("a", "text"),), LOTS]
        for value in wrong:
            self.assertIsInstance(raised(Table, value), InvalidTable, value)

    def test_rows(self):
        wrong = [value for value in NO_SHAPES if value != {}] + [SQUARE, LOTS, [("name", "x")], (("name", "x"),),
            {"other": 1}, {1: 1}, {None: None}, {("name",): "x"}]
        wrong += [{"worth": value} for value in (True, False, "1", (1, 1), [1], SQUARE, {})]
        wrong += [{"name": value} for value in (1, True, "x" * 41, "a\nb", "\t", "\x7f", "\u00e9", "\u20ac", ("x",), ["x"],
            SQUARE)]
        wrong += [{"spot": value} for value in (MORE, SQUARE.form, "shape", 1, (), [SQUARE], Tree())]
        wrong += [{"name": "x", "worth": 1, "spot": 2}, {"name": "x", "other": None}]
        for value in wrong:
            self.assertIsInstance(raised(LOTS.put, value), InvalidRow, value)
            self.assertIsInstance(raised(LOTS.change, 1, value), InvalidRow, value)
        self.assertEqual(LOTS.row(1)["worth"], 5)

    def check_number(self, value, call, *args):
        error = raised(call, *args)
        self.assertIsInstance(error, InvalidNumber)
        self.assertIs(error.value, value)

    def test_numbers(self):
        gone = LOTS.without(2)
        for value in (*NO_INTEGERS, 0, -1, 2, 4, HUGE):
            self.check_number(value, gone.row, value)
            self.check_number(value, gone.without, value)
            self.check_number(value, gone.without, 1, 3, value, 9)
            self.check_number(value, gone.without, value, None)
            for values in ({}, None, {"worth": "x"}):
                self.check_number(value, gone.change, value, values)
        self.assertEqual(gone.numbers, (1, 3))

    def test_long_edges(self):
        long_line = line(*[(k, k % 2) for k in range(61)])
        self.assertEqual(len(long_line), 60)
        self.assertEqual(LOTS.put({"spot": long_line}).row(4)["spot"], long_line)
        self.assertIsInstance(raised(LOTS.put, {"spot": line(*[(k, k % 2) for k in range(62)])}), InvalidRow)


if __name__ == "__main__":
    unittest.main()
