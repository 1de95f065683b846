"""Groups of rows, values for many rows, and linked rows: points 14.3 and 14.4."""

import random
import unittest
from fractions import Fraction

from tests.drawn_tables import KINDS_OF, drawn_table
from tests.helpers import EMPTY, FRAME, HUGE, NO_INTEGERS, POSTS, ROAD, SQUARE, WELL, raised
from tests.test_tables import NO_TABLES, SIXTY
from wherebase.errors import InvalidNumber, InvalidOperation, InvalidTable, TooMany, UnknownName
from wherebase.measure.measures import area_of, hull, square_distance
from wherebase.plan.groups import groups, linked, summed
from wherebase.shape.overlays import common, joint
from wherebase.shape.shapes import Shape, area, dots, line
from wherebase.table.tables import Table

TABLE = Table({"name": "text", "spot": "shape", "worth": "number"})
for told in (
    {"name": "a", "spot": SQUARE, "worth": 5}, {"name": "b", "spot": WELL}, {"spot": ROAD, "worth": 3, "name": "a"},
    {"worth": 5, "name": ""}, {"spot": EMPTY, "name": "a", "worth": 5},
    {"spot": Shape((), (((0, 2), (5, 2)), ((0, 2), (-1, 2))), ()), "worth": -7},
    {"spot": area((4, 4), (4, 0), (0, 0), (0, 4)), "name": "b"},
):
    TABLE = TABLE.put(told)
NO_COLUMNS = (None, "no", "Spot", "", 5, True, ("spot",), ["spot"], {}, SQUARE)
NO_TUPLES = (True, False, 0, 1, "spot", ["spot"], {}, {1: 1}, SQUARE)


class GroupsTest(unittest.TestCase):
    def test_groups(self):
        for columns, numbers, expected in (
            ((), None, ((1, 2, 3, 4, 5, 6, 7),)), ((), (), ()), ((), (4, 2, 2), ((2, 4),)),
            (("name",), None, ((1, 3, 5), (2, 7), (4,), (6,))), (("worth",), None, ((1, 4, 5), (2, 7), (3,), (6,))),
            # equal sets of points, told in several ways
            (("spot",), None, ((1, 7), (2,), (3, 6), (4,), (5,))),
            (("spot", "name"), None, ((1,), (2,), (3,), (4,), (5,), (6,), (7,))),
            (("worth", "name"), None, ((1, 5), (2, 7), (3,), (4,), (6,))),
            (("name", "worth"), None, ((1, 5), (2, 7), (3,), (4,), (6,))),
            (("name", "name", "worth", "name"), None, ((1, 5), (2, 7), (3,), (4,), (6,))),
            (("name",), (7, 5, 3, 2, 5), ((2, 7), (3, 5))), (("worth",), (6,), ((6,),)),
            (("worth",), (7, 2), ((2, 7),)),
        ):
            self.assertEqual(groups(TABLE, columns, numbers), expected)
        self.assertEqual(groups(Table(KINDS_OF), ()), ())
        self.assertEqual(groups(Table(KINDS_OF), ("spot",)), ())
        self.assertEqual(groups(TABLE.without(1, 2), ("worth",)), ((3,), (4, 5), (6,), (7,)))

    def test_drawn(self):
        rows = random.Random(143)
        for _ in range(40):
            table = drawn_table(rows, rows.randint(0, 15))
            columns = tuple(rows.choice(table.columns) for _ in range(rows.randint(0, 3)))
            numbers = rows.choice([None, tuple(rows.choices(table.numbers,
                k=rows.randint(0, 9)) if len(table) else ())])
            found = []
            for number in sorted(set(table.numbers if numbers is None else numbers)):
                row = table.row(number)
                for group in found:
                    if all(table.row(group[0])[column] == row[column] for column in columns):
                        group.append(number)
                        break
                else:
                    found.append([number])
            self.assertEqual(groups(table, columns, numbers), tuple(tuple(group) for group in found))

    def test_wrong_arguments(self):
        for table in NO_TABLES:
            self.assertIsInstance(raised(groups, table, None, 5), InvalidTable)
        for columns in (None, *NO_TUPLES):
            self.assertIsInstance(raised(groups, TABLE, columns, 5), InvalidOperation)
        for column in NO_COLUMNS:
            error = raised(groups, TABLE, ("spot", column, "nothing"), 5)
            self.assertIsInstance(error, UnknownName)
            self.assertIs(error.name, column)
        for numbers in NO_TUPLES:
            self.assertIsInstance(raised(groups, TABLE, ("spot",), numbers), InvalidOperation)
        for number in (*NO_INTEGERS, 0, 8, -1, HUGE):
            error = raised(groups, TABLE, ("spot",), (1, number, 99))
            self.assertIsInstance(error, InvalidNumber)
            self.assertIs(error.value, number)
        self.assertEqual(raised(groups, TABLE.without(3), (), (1, 3)).value, 3)


class SummedTest(unittest.TestCase):
    def test_words(self):
        every = (7, 6, 5, 4, 3, 2, 1, 1, 5, 5)
        for what, column, numbers, expected in (
            ("count", None, every, 7), ("count", "spot", (), 0), ("count", "no", (2, 2), 1), ("count", 5, (3, 1, 3), 2),
            ("known", "worth", every, 5), ("known", "name", every, 6), ("known", "spot", every, 6),
            ("known", "spot", (), 0),
            ("known", "spot", (4,), 0), ("sum", "worth", every, 11), ("sum", "worth", (5, 1, 5), 10),
            ("sum", "worth", (2,), None),
            ("sum", "worth", (), None), ("least", "worth", every, -7), ("greatest", "worth", every, 5),
            ("least", "name", every, ""), ("greatest", "name", every, "b"), ("least", "name", (6,), None),
            ("greatest", "worth", (), None), ("areas", "spot", every, (32, 1)), ("areas", "spot", (1, 1, 1), (16, 1)),
            ("areas", "spot", (4,), (0, 1)), ("areas", "spot", (), (0, 1)), ("areas", "spot", (2, 3), (0, 1)),
            ("joint", "spot", every, joint(SQUARE, ROAD)), ("joint", "spot", (4,), EMPTY), ("joint", "spot", (), EMPTY),
            ("hull", "spot", every, hull(joint(SQUARE, ROAD))), ("hull", "spot", (), EMPTY),
            ("hull", "spot", (2, 4), WELL),
            ("common", "spot", (1, 3, 6), line((0, 2), (4, 2))), ("common", "spot", every, EMPTY),
            ("common", "spot", (), None),
            ("common", "spot", (4,), None), ("common", "spot", (2, 2, 4, 1), WELL), ("common", "spot", (1,), SQUARE),
        ):
            self.assertEqual(summed(TABLE, numbers, what, column), expected, (what, column, numbers))
        self.assertEqual(summed(TABLE, (1,), "count"), 1)
        third = Table({"spot": "shape"}).put({"spot": area((0, 0), (1, 0), (0, 1, 3))}).put({"spot": SQUARE})
        self.assertEqual(summed(third, (1, 2), "areas", "spot"), (97, 6))

    def test_drawn(self):
        rows = random.Random(144)
        for _ in range(30):
            table = drawn_table(rows, rows.randint(1, 5))
            numbers = tuple(rows.choices(table.numbers, k=rows.randint(0, 5)))
            shapes = [table.row(number)["spot"] for number in sorted(set(numbers))]
            shapes = [shape for shape in shapes if shape is not None]
            total = sum([Fraction(*area_of(shape)) for shape in shapes], Fraction(0))
            self.assertEqual(Fraction(*summed(table, numbers, "areas", "spot")), total)
            self.assertEqual(summed(table, numbers, "joint", "spot"), joint(*shapes))
            self.assertEqual(summed(table, numbers, "hull", "spot"), hull(joint(*shapes)))
            self.assertEqual(summed(table, numbers, "common", "spot"), common(*shapes) if shapes else None)
            for column in ("worth", "name"):
                values = [table.row(number)[column] for number in set(numbers) if table.row(number)[column] is not None]
                self.assertEqual(summed(table, numbers, "known", column), len(values))
                self.assertEqual(summed(table, numbers, "least", column), min(values, default=None))
                self.assertEqual(summed(table, numbers, "greatest", column), max(values, default=None))

    def test_sizes(self):
        table = Table({"spot": "shape"})
        parts = [dots(*[(k + 60 * turn, 0) for k in range(60)]) for turn in range(3)]
        for shape in (*parts, dots(*[(k, 1) for k in range(20)]), dots((5, 5))):
            table = table.put({"spot": shape})
        for what in ("joint", "hull", "common"):
            self.assertIsNone(raised(summed, table, (1, 2, 3, 4), what, "spot"))
            self.assertIsNone(raised(summed, table, (1, 1, 1, 1, 1), what, "spot"))
            error = raised(summed, table, (1, 2, 3, 4, 5), what, "spot")
            self.assertIsInstance(error, TooMany)
            self.assertEqual(error.limit, 200)
        self.assertEqual(summed(table, (1, 2, 3, 4, 5), "areas", "spot"), (0, 1))
        self.assertEqual(summed(table, (1, 2, 3, 4, 5), "known", "spot"), 5)

    def test_wrong_arguments(self):
        for table in NO_TABLES:
            self.assertIsInstance(raised(summed, table, None, None, None), InvalidTable)
        for numbers in (None, *NO_TUPLES):
            self.assertIsInstance(raised(summed, TABLE, numbers, None, None), InvalidOperation)
        for number in (*NO_INTEGERS, 0, 8, -1, HUGE):
            error = raised(summed, TABLE, (1, number, 99), None, None)
            self.assertIsInstance(error, InvalidNumber)
            self.assertIs(error.value, number)
        for what in (None, True, "", "Sum", "mean", 5, ("sum",), ["sum"], {}, SQUARE):
            self.assertIsInstance(raised(summed, TABLE, (1,), what, "no"), InvalidOperation)
        words = {"known": (), "sum": ("name", "spot"), "least": ("spot",), "greatest": ("spot",),
            "areas": ("name", "worth"),
            "joint": ("name", "worth"), "hull": ("name", "worth"), "common": ("name", "worth")}
        for what, columns in words.items():
            for column in NO_COLUMNS:
                error = raised(summed, TABLE, (1,), what, column)
                self.assertIsInstance(error, UnknownName)
                self.assertIs(error.name, column)
            for column in columns:
                self.assertIsInstance(raised(summed, TABLE, (), what, column), InvalidOperation)


class LinkedTest(unittest.TestCase):
    def test_linked(self):
        row = Table({"spot": "shape"})
        for shape in (dots((0, 0)), dots((9, 9)), None, dots((3, 4)), EMPTY, dots((6, 8)), dots((6, 8)),
            line((9, 0), (20, 0))):
            row = row.put({"spot": shape})
        for square, expected in (
            (0, ((1,), (2,), (4,), (6, 7), (8,))), ((0, 1), ((1,), (2,), (4,), (6, 7), (8,))),
            (9, ((1,), (2,), (4,), (6, 7), (8,))),
            (10, ((1,), (2, 6, 7), (4,), (8,))), ((99, 10), ((1,), (2,), (4,), (6, 7), (8,))),
            (24, ((1,), (2, 6, 7), (4,), (8,))),
            (25, ((1, 2, 4, 6, 7), (8,))), (51, ((1, 2, 4, 6, 7), (8,))), (52, ((1, 2, 4, 6, 7, 8),)),
            (HUGE, ((1, 2, 4, 6, 7, 8),)), ((HUGE, 2), ((1, 2, 4, 6, 7, 8),)),
        ):
            self.assertEqual(linked(row, "spot", square), expected, square)
        self.assertEqual(linked(TABLE, "spot", 0), ((1, 2, 3, 6, 7),))
        self.assertEqual(linked(TABLE.without(1, 7, 2), "spot", 100), ((3, 6),))
        self.assertEqual(linked(Table({"spot": "shape"}).put({}), "spot", 1), ())

    def test_drawn(self):
        rows = random.Random(145)
        for _ in range(25):
            table = drawn_table(rows, rows.randint(0, 10))
            elder = None
            for square in (0, (1, 2), 1, 4, (25, 2), 60):
                limit = Fraction(*square) if isinstance(square, tuple) else square
                left = [number for number in table if table.row(number)["way"]]
                found = []
                while left:
                    group, waiting = [], [left[0]]
                    while waiting:
                        number = waiting.pop()
                        if number in left:
                            left.remove(number)
                            group.append(number)
                            shape = table.row(number)["way"]
                            waiting += [other for other in left
                                if Fraction(*square_distance(shape, table.row(other)["way"])) <= limit]
                    found.append(tuple(sorted(group)))
                self.assertEqual(linked(table, "way", square), tuple(sorted(found)))
                # with a greater square groups only grow together
                if elder is not None:
                    self.assertTrue(all(any(set(group) <= set(other) for other in found) for group in elder))
                elder = found

    def test_wrong_arguments(self):
        for table in NO_TABLES:
            self.assertIsInstance(raised(linked, table, None, None), InvalidTable)
        for column in NO_COLUMNS:
            error = raised(linked, TABLE, column, None)
            self.assertIsInstance(error, UnknownName)
            self.assertIs(error.name, column)
        for column in ("spot", "worth"):
            for square in (None, True, False, -1, (1, -1), (2, 2), (-1, 2), (1, 0), "1", [1, 2], (1,), (1, 2, 3), {},
                SQUARE):
                error = raised(linked, TABLE, column, square)
                self.assertIsInstance(error, InvalidNumber)
                self.assertIs(error.value, square)
        for column in ("worth", "name"):
            self.assertIsInstance(raised(linked, TABLE, column, 1), InvalidOperation)
        self.assertEqual(linked(Table({"spot": "shape"}).put({"spot": SIXTY}).put({"spot": FRAME}), "spot", 0),
            ((1, 2),))
        self.assertGreater(len(POSTS), 60)


if __name__ == "__main__":
    unittest.main()
