"""Windows and counter windows: point 13.2."""

import random
import unittest

from tests.drawn_tables import SPOT, WAY, WORTH, do_meet, drawn_condition, drawn_table
from tests.helpers import EMPTY, FRAME, HUGE, ROAD, SQUARE, WELL, raised
from tests.test_tables import NO_TABLES
from wherebase.errors import InvalidCondition, InvalidOperation, InvalidTable, UnknownName
from wherebase.meet.meets import RELATIONS
from wherebase.plan.windows import window
from wherebase.shape.shapes import dots
from wherebase.table.conditions import is_condition, truth
from wherebase.table.tables import Table
from wherebase.tree.boxes import box_of

TABLE = Table({"spot": "shape", "way": "shape", "worth": "number", "name": "text"})
BOX = (-1, 2, 5, 2)
BY_ROAD, CHEAP = ("meets", SPOT, ("value", ROAD)), ("less", WORTH, ("value", 5))
# (0, 0, 1, 1), (2, 2, 2, 2) and (-3, 0, 9, 1)
SMALL, DOT, LONG = [("touches", SPOT, ("value", dots(*points))) for points in (
    ((0, 0), (1, 1)), ((2, 2),), ((-3, 0), (9, 1)))]
FAR, WIDE = [("meets", SPOT, ("value", dots(*points))) for points in (((7, 8), (8, 9)), ((-1, -1), (0, 1)))]
NEVER, AWAY = ("missing", SPOT), ("apart", SPOT, ("value", WELL))


class WindowTest(unittest.TestCase):
    def check(self, condition, expected, column="spot"):
        self.assertIs(is_condition(TABLE, condition), True, condition)
        self.assertEqual(window(TABLE, condition, column), expected, condition)
        self.assertEqual(window(TABLE, ("not", condition), column), expected[::-1], condition)

    def test_relations(self):
        road, nothing = ("value", ROAD), ("value", EMPTY)
        for word in (*RELATIONS, "same"):
            for pair in ((SPOT, road), (road, SPOT)):
                self.check((word, *pair), ("all", BOX) if word == "apart" else (BOX, "all"))
                self.check((word, *pair), ("all", "all"), "way")
            for pair in ((SPOT, nothing), (nothing, SPOT)):
                first = "all" if (word, pair[0]) in (("holds", SPOT), ("within", nothing)) else "none"
                self.check((word, *pair), ("all", "none") if word == "apart" else (first, "all"))
            for pair in ((SPOT, SPOT), (SPOT, WAY), (road, road), (WAY, road), (road, WAY)):
                self.check((word, *pair), ("all", "all"))
        self.check(("meets", SPOT, ("value", dots((1, 1, 2), (-7, 5, 3)))), ((-3, 0, 1, 2), "all"))

    def test_near(self):
        for square, more in ((0, 0), ((0, 1), 0), ((1, 9), 1), (1, 1), ((3, 2), 2), (2, 2), ((9, 4), 2), (4, 2),
            ((17, 4), 3),
                (5, 3), (9, 3), ((28, 3), 4), (10, 4), (HUGE ** 2, HUGE), (HUGE ** 2 + 1, HUGE + 1),
                ((HUGE ** 2, 2), None)):
            if more is None:
                more = window(TABLE, ("near", SPOT, ("value", WELL), square), "spot")[0][2] - 2
                self.assertLess(2 * (more - 1) ** 2, square[0])
                self.assertGreaterEqual(2 * more ** 2, square[0])
            for pair in ((SPOT, ("value", ROAD)), (("value", ROAD), SPOT)):
                self.check(("near", *pair, square), ((-1 - more, 2 - more, 5 + more, 2 + more), "all"))
                self.check(("near", *pair, square), ("all", "all"), "way")
            for pair in ((SPOT, ("value", EMPTY)), (("value", EMPTY), SPOT)):
                self.check(("near", *pair, square), ("none", "all"))
            self.check(("near", SPOT, WAY, square), ("all", "all"))
            self.check(("near", SPOT, SPOT, square), ("all", "all"))

    def test_others(self):
        self.check(("missing", SPOT), ("none", "all"))
        for condition in (("missing", WAY), ("missing", WORTH), ("missing", ("value", ROAD)),
            ("missing", ("area", SPOT)), CHEAP,
                ("same", ("area", SPOT), ("value", 5)), ("less", ("square", SPOT, ("value", ROAD)), ("value", 1)),
                ("same", ("value", 1), ("value", 2)), ("same", WAY, ("value", ROAD))):
            self.check(condition, ("all", "all"))

    def test_and(self):
        for inner, expected in (
            ((), ("all", "none")), ((CHEAP,), ("all", "all")), ((BY_ROAD,), (BOX, "all")),
            ((NEVER, SMALL), ("none", "all")), ((SMALL, CHEAP, NEVER), ("none", "all")),
            ((SMALL, LONG), ((0, 0, 1, 1), "all")), ((LONG, SMALL), ((0, 0, 1, 1), "all")),
            ((SMALL, DOT), ((2, 2, 2, 2), "all")), ((SMALL, BY_ROAD), (BOX, "all")),
            # by areas, wherever the boxes lie
            ((FAR, WIDE), ((7, 8, 8, 9), "all")), ((WIDE, FAR), ((7, 8, 8, 9), "all")),
            ((WIDE, LONG), ((-1, -1, 0, 1), "all")),
            # no area at all: the least tuple
            ((DOT, BY_ROAD), (BOX, "all")), ((BY_ROAD, DOT, CHEAP), (BOX, "all")),
            ((("not", SMALL), ("not", DOT)), ("all", (0, 0, 2, 2))), ((("not", SMALL), LONG), ((-3, 0, 9, 1), "all")),
            ((("not", NEVER), ("not", SMALL)), ("all", (0, 0, 1, 1))), ((("not", NEVER),), ("all", "none")),
            ((AWAY, ("not", LONG)), ("all", (-3, 0, 9, 2))), ((("and",), ("or",)), ("none", "all")),
            ((("or", SMALL, DOT), ("or", LONG, BY_ROAD)), ((0, 0, 2, 2), "all")),
            ((("or", SMALL, CHEAP), LONG), ((-3, 0, 9, 1), "all")),
        ):
            self.check(("and", *inner), expected)
            # "or" is told likewise by the opposites
            self.check(("or", *[("not", part) for part in inner]), expected[::-1])

    def test_or(self):
        for inner, expected in (
            ((), ("none", "all")), ((SMALL, DOT), ((0, 0, 2, 2), "all")), ((SMALL, NEVER), ((0, 0, 1, 1), "all")),
            ((NEVER, NEVER), ("none", "all")), ((SMALL, CHEAP), ("all", "all")), ((AWAY, AWAY), ("all", (2, 2, 2, 2))),
            ((AWAY, SMALL), ("all", (2, 2, 2, 2))), ((AWAY, ("apart", SPOT, ("value", EMPTY))), ("all", "none")),
            ((AWAY, ("not", BY_ROAD)), ("all", BOX)), ((("and", SMALL, LONG), DOT), ((0, 0, 2, 2), "all")),
            ((("and",), ("or",)), ("all", "none")), ((("or", NEVER),), ("none", "all")),
        ):
            self.check(("or", *inner), expected)

    def test_drawn(self):
        rows = random.Random(132)
        seen = {}
        for _ in range(250):
            table = drawn_table(rows, 6)
            condition = drawn_condition(rows, rows.randint(0, 4))
            if not is_condition(table, condition):
                continue
            for column in ("spot", "way"):
                found = window(table, condition, column)
                seen.update({(place, isinstance(one, str) and one): True for place, one in enumerate(found)})
                for number in table:
                    shape, told = table.row(number)[column], truth(table, condition, number)
                    if not shape or told is None:
                        continue
                    one = found[0] if told else found[1]
                    self.assertNotEqual(one, "none")
                    self.assertTrue(one == "all" or do_meet(box_of(shape), one))
        self.assertEqual(len(seen), 6)

    def test_wrong_arguments(self):
        for table in NO_TABLES:
            self.assertIsInstance(raised(window, table, None, None), InvalidTable)
        for condition in (None, SPOT, ("no",), [("and",)], ("meets", WORTH, SPOT)):
            self.assertIsInstance(raised(window, TABLE, condition, None), InvalidCondition)
        for column in (None, "no", "Spot", "", 5, True, ("spot",), ["spot"], {}, SQUARE, SPOT, FRAME):
            error = raised(window, TABLE, ("and",), column)
            self.assertIsInstance(error, UnknownName)
            self.assertIs(error.name, column)
        for column in ("worth", "name"):
            self.assertIsInstance(raised(window, TABLE, ("and",), column), InvalidOperation)


if __name__ == "__main__":
    unittest.main()
