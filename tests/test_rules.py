"""Rules and breaches: points 0.20 and 15.1 to 15.3."""

import random
import unittest

from tests.drawn_tables import drawn_shape, drawn_table
from tests.helpers import EMPTY, FRAME, HUGE, NO_POINTS, NO_SHAPES, ROAD, SQUARE, WELL, raised, told
from tests.test_tables import MORE, SIXTY
from wherebase.errors import (
    InvalidCondition, InvalidName, InvalidOperation, InvalidRule, InvalidShape, InvalidTable, TooMany,
)
from wherebase.meet.meets import witness
from wherebase.plan.questions import answer
from wherebase.rule.rules import (
    RULE_KINDS, Rule, apart_rule, breach, breached_rows, check_rule, divides_rule, fits, is_breach, is_true,
    single_rule,
    within_rule,
)
from wherebase.shape.overlays import covers, joint
from wherebase.shape.shapes import Shape, area, border, dots, line, place
from wherebase.table.conditions import truth
from wherebase.table.tables import Table

LEFT, RIGHT = area((0, 0), (2, 0), (2, 4), (0, 4)), area((2, 0), (4, 0), (4, 4), (2, 4))
CHEAP = ("less", ("column", "price"), ("value", 6))
CLEAR, ONE = apart_rule("clear", "lots", "plot"), single_rule("one", "lots", "plot")
HELD, WHOLE = within_rule("held", "lots", "plot", "zones", "zone"), divides_rule("whole", "lots", "plot", SQUARE)
LOW = check_rule("low", "lots", CHEAP)
RULES = (CLEAR, ONE, HELD, WHOLE, LOW, single_rule("names", "lots", "name"), single_rule("prices", "lots", "price"),
    within_rule("own", "lots", "plot", "lots", "plot"), divides_rule("none", "lots", "plot", EMPTY))
NO_RULES = (None, True, 5, "rule", (), [], {}, SQUARE, "clear: apart lots.plot", ("apart", "clear", "lots", "plot"),
    Table({"a": "text"}), Rule)
NO_NAMES = (None, True, 5, "", "Lots", "lots ", "a" * 21, "lot1", ("lots",), ["lots"], {}, SQUARE)
ASKED = (is_true, breach, breached_rows)


def lots(*shapes, **more):
    """A table of plots, and tables of zones."""
    table = Table({"plot": "shape", "price": "number", "name": "text"})
    for shape in shapes:
        table = table.put({"plot": shape})
    zones = Table({"zone": "shape"})
    for shape in more.get("zones", ()):
        zones = zones.put({"zone": shape})
    return {"lots": table, "zones": zones}


def of(table, column):
    return {number: table.row(number)[column] for number in table}


def rows_told(rule, tables):
    """The rows of all breaches by the words of 15.2, each kind by other means than the program's own."""
    name = "zones" if rule.names == ("zones",) else "lots"
    table = tables[name]
    words = str(rule).split(" ")
    pairs = [(one, other) for one in table for other in table if one < other]
    if rule.kind == "check":
        return tuple((number,) for number in table if truth(table, CHEAP, number) is False)
    values = of(table, words[2].split(".")[1])
    if rule.kind == "single":
        return tuple(pair for pair in pairs if values[pair[0]] is not None and values[pair[0]] == values[pair[1]])
    shapes = {number: shape or EMPTY for number, shape in values.items()}
    both = [pair for pair in pairs if witness(shapes[pair[0]], shapes[pair[1]], "inside", "inside") is not None]
    if rule.kind == "apart":
        return tuple(both)
    if rule.kind == "within":
        other, column = words[3].split(".")
        others = [shape or EMPTY for shape in of(tables[other], column).values()]
        return tuple((number,) for number in shapes if not covers(shapes[number], *others))
    whole = {"whole": SQUARE, "none": EMPTY}[rule.label]
    found = both + [(number,) for number in shapes if not covers(shapes[number], whole)]
    return tuple(found + ([] if covers(whole, *shapes.values()) else [()]))


class RulesTest(unittest.TestCase):
    def check(self, rule, tables, rows):
        """Checks the rows of all breaches, and the first breach."""
        self.assertIs(fits(rule, tables), True)
        self.assertEqual(breached_rows(rule, tables), rows)
        self.assertIs(is_true(rule, tables), rows == ())
        found = breach(rule, tables)
        self.assertEqual(found and found[0], rows[0] if rows else None)
        self.assertIs(is_breach(rule, tables, found), found is not None)
        return found

    def test_apart(self):
        touching, crossing = area((4, 0), (6, 0), (6, 4), (4, 4)), line((0, 0), (9, 9))
        for shapes, rows in (
            ((), ()), ((SQUARE,), ()), ((LEFT, RIGHT, touching), ()), ((SQUARE, None, EMPTY, None, EMPTY), ()),
            ((SQUARE, LEFT, RIGHT), ((1, 2), (1, 3))), ((SQUARE, SQUARE), ((1, 2),)), ((SQUARE, border(SQUARE)), ()),
            # a lone point is inside, the end of a piece is not
            ((WELL, WELL), ((1, 2),)), ((WELL, SQUARE, ROAD), ((1, 2), (1, 3), (2, 3))), ((dots((0, 0)), SQUARE), ()),
            ((ROAD, dots((5, 2))), ()), ((ROAD, line((5, 2), (9, 2))), ()), ((ROAD, line((4, 2), (9, 2))), ((1, 2),)),
            ((crossing, line((0, 9), (9, 0))), ((1, 2),)), ((FRAME, WELL), ()),
            ((FRAME, area((1, 1), (3, 1), (3, 3), (1, 3))), ()),
            ((FRAME, SQUARE), ((1, 2),)), ((LEFT, WELL, dots((3, 3)), RIGHT), ((3, 4),)),
            ((dots((9, 9)), SQUARE, None, LEFT, RIGHT, dots((1, 1))), ((2, 4), (2, 5), (2, 6), (4, 6))),
        ):
            self.check(CLEAR, lots(*shapes), rows)
        self.assertEqual(self.check(CLEAR, lots(ROAD, line((2, 0), (2, 9))), ((1, 2),)), ((1, 2), (2, 2, 1)))

    def test_single(self):
        again = Shape((), (((0, 2), (5, 2)), ((0, 2), (-1, 2))), ())
        self.check(ONE, lots(SQUARE, ROAD, None, None, again, EMPTY), ((2, 5),))
        self.check(ONE, lots(EMPTY, None, EMPTY, EMPTY), ((1, 3), (1, 4), (3, 4)))
        self.check(ONE, lots(SQUARE, LEFT, RIGHT, None), ())
        tables = lots(*[None] * 5)
        for number, price, name in ((1, 5, "a"), (2, None, ""), (3, 5, "A"), (4, HUGE, ""), (5, 5, None)):
            tables["lots"] = tables["lots"].change(number, {"price": price, "name": name})
        self.assertEqual(self.check(RULES[6], tables, ((1, 3), (1, 5), (3, 5))), ((1, 3), None))
        self.check(RULES[5], tables, ((2, 4),))
        self.check(single_rule("a", "zones", "zone"), lots(zones=(SQUARE, SQUARE)), ((1, 2),))

    def test_within(self):
        for shapes, zones, rows in (
            ((LEFT, RIGHT), (SQUARE,), ()), ((SQUARE,), (LEFT, RIGHT), ()), ((SQUARE,), (LEFT,), ((1,),)),
            ((LEFT, None, EMPTY, RIGHT), (FRAME,), ((1,), (4,))), ((), (), ()), ((None, EMPTY), (), ()),
            ((WELL,), (), ((1,),)),
            ((ROAD, WELL), (SQUARE,), ((1,),)), ((WELL,), (FRAME, None, EMPTY), ((1,),)), ((WELL,), (FRAME, ROAD), ()),
            ((SQUARE,), (FRAME, area((1, 1), (3, 1), (3, 3), (1, 3))), ()),
            ((dots((0, 0), (9, 9)),), (SQUARE, dots((9, 9))), ()),
        ):
            self.check(HELD, lots(*shapes, zones=zones), rows)
        # one table in both places
        own = RULES[7]
        self.check(own, lots(SQUARE, ROAD, None, EMPTY), ())
        tables = lots(zones=(SQUARE,))
        table = Table({"plot": "shape", "other": "shape"}).put({"plot": LEFT}).put({"other": LEFT,
            "plot": WELL}).put({"plot": RIGHT})
        self.check(within_rule("own", "lots", "plot", "lots", "other"), {**tables, "lots": table}, ((3,),))

    def test_divides(self):
        for shapes, rows in (
            ((LEFT, RIGHT), ()), ((SQUARE,), ()), ((SQUARE, None, EMPTY), ()), ((), ((),)), ((None, EMPTY), ((),)),
            ((FRAME,), ((),)),
            ((LEFT, area((2, 0), (4, 0), (4, 3), (2, 3))), ((),)), ((LEFT, SQUARE), ((1, 2),)),
            ((SQUARE, dots((9, 9))), ((2,),)),
            ((ROAD, LEFT), ((1, 2), (1,), ())), ((FRAME, WELL), ((),)),
            ((FRAME, area((1, 1), (3, 1), (3, 3), (1, 3))), ()),
            ((LEFT, RIGHT, line((4, 0), (9, 0)), line((2, 4), (2, 0))), ((3,),)),
            ((LEFT, RIGHT, line((4, 0), (4, 4))), ()),
            ((area((0, 0), (9, 0), (0, 9)), RIGHT, WELL), ((1, 2), (1, 3), (1,))),
            ((area((0, 0), (7, 0), (0, 7)), WELL), ((1, 2), (1,), ())),
        ):
            self.check(WHOLE, lots(*shapes), rows)
        self.check(RULES[8], lots(EMPTY, None), ())
        self.check(RULES[8], lots(WELL, WELL, ROAD), ((1, 2), (1, 3), (2, 3), (1,), (2,), (3,)))
        self.check(divides_rule("lines", "lots", "plot", ROAD), lots(line((-1, 2), (3, 2)), line((3, 2), (5, 2))), ())
        self.check(divides_rule("lines", "lots", "plot", ROAD), lots(line((-1, 2), (3, 2)), line((4, 2), (5, 2))),
            ((),))

    def test_check(self):
        tables = lots(*[None] * 5)
        for number, price in ((1, 5), (2, 6), (4, HUGE), (5, -HUGE)):
            tables["lots"] = tables["lots"].change(number, {"price": price})
        # of row 3 it is unknown
        self.assertEqual(self.check(LOW, tables, ((2,), (4,))), ((2,), None))
        self.assertNotEqual(answer(tables["lots"], CHEAP), tuple(set(tables["lots"]) - {2, 4}))
        self.check(check_rule("never", "lots", ("or",)), tables, ((1,), (2,), (3,), (4,), (5,)))
        self.check(check_rule("ever", "lots", ("and",)), tables, ())
        self.check(check_rule("there", "zones", ("not", ("missing", ("column", "zone")))), lots(zones=(WELL, None)),
            ((2,),))

    def test_drawn(self):
        rows = random.Random(150)
        seen = {}
        kinds = {"plot": "shape", "price": "number", "name": "text"}
        for turn in range(60):
            spread = rows.randint(1, 4)
            tables = {"lots": drawn_table(rows, rows.randint(0, 6), kinds),
                "zones": drawn_table(rows, rows.randint(0, 4), {"zone": "shape"})}
            for number in tables["lots"]:
                shape = drawn_shape(rows, spread)
                tables["lots"] = tables["lots"].change(number,
                    {"plot": shape if len(shape) < 12 else WELL, "price": rows.randint(4, 7)})
            if turn % 3 == 0:
                tables["lots"] = lots(*rows.choice([(LEFT, RIGHT), (SQUARE,), (FRAME, WELL), (LEFT, ROAD)]))["lots"]
            for rule in RULES:
                if raised(is_true, rule, tables) is not None:
                    continue
                told_rows = rows_told(rule, tables)
                self.check(rule, tables, told_rows)
                seen[(rule.label, told_rows == ())] = True
        self.assertEqual([rule.label for rule in RULES if (rule.label, False) not in seen], ["own"])
        self.assertEqual([rule.label for rule in RULES[:7] if (rule.label, True) not in seen], [])


class BreachTest(unittest.TestCase):
    def check_values(self, rule, tables, right, wrong):
        for value in right:
            self.assertIs(is_breach(rule, tables, value), True, value)
        for value in wrong:
            self.assertIs(is_breach(rule, tables, value), False, value)
        for value in (None, True, (), [], {}, right[0][0], right[0][1], [*right[0]], (*right[0], None), right[0][:1],
                (list(right[0][0]), right[0][1]), ((*right[0][0], 99), right[0][1]),
                (right[0][0][:-1], right[0][1]) if len(right[0][0]) > 1
                else None, ((None,), right[0][1]), ((True,), right[0][1]), (True, right[0][1]), SQUARE,
                    (SQUARE, right[0][1]),
                (right[0][0] * 2 + (5,), right[0][1])):
            self.assertIs(is_breach(rule, tables, value), False, value)
        for point in NO_POINTS:
            if point is not None and point not in [value[1] for value in right]:
                self.assertIs(is_breach(rule, tables, (right[0][0], point)), False, point)

    def test_apart(self):
        tables = lots(SQUARE, ROAD, None, dots((1, 1), (4, 2)), EMPTY)
        self.check_values(CLEAR, tables, [((1, 2), told(2, 2)), ((1, 2), (1, 4, 2)), ((1, 4), told(1, 1)),
            ((2, 4), told(4, 2))], [
            ((1, 2), told(0, 2)), ((1, 2), told(4, 2)), ((1, 2), told(5, 2)), ((1, 2), told(2, 3)), ((1, 2), None),
            ((2, 1), told(2, 2)),
            ((1, 1), told(2, 2)), ((1, 4), told(4, 2)), ((1, 4), told(2, 2)), ((1, 3), told(2, 2)),
            ((1, 5), told(2, 2)),
            ((1, 6), told(2, 2)), ((1, 2, 4), told(2, 2)), ((1,), told(2, 2)), ((), told(2, 2)),
            ((1, HUGE), told(2, 2)),
            ((True, 2), told(2, 2)), ((0, 1), told(2, 2)), ((1, 2), (2, 2)), ((1, 2), (4, 4, 2)),
        ])
        # a corner at which two lines cross, and the ends of lines
        tables = lots(line((0, 0), (2, 2)), line((0, 2), (2, 0)), line((2, 2), (3, 3)))
        self.check_values(CLEAR, tables, [((1, 2), told(1, 1))],
            [((1, 3), told(2, 2)), ((1, 2), told(0, 0)), ((2, 3), told(2, 2))])

    def test_single(self):
        tables = lots(SQUARE, None, SQUARE, None, WELL)
        self.check_values(ONE, tables, [((1, 3), None)], [((3, 1), None), ((1, 1), None), ((2, 4), None),
            ((1, 5), None), ((1, 6), None),
            ((1, 3), told(2, 2)), ((1,), None), ((), None), ((1, 3, 5), None)])

    def test_check(self):
        tables = {"lots": lots(None, None, None)["lots"].change(1, {"price": 6}).change(2, {"price": 5})}
        self.check_values(LOW, tables, [((1,), None)], [((2,), None), ((3,), None), ((4,), None), ((1, 2), None),
            ((), None), ((1,), told(0, 0)),
            ((1, 1), None)])

    def test_within(self):
        tables = lots(SQUARE, ROAD, None, zones=(FRAME, dots((2, 2))))
        self.check_values(HELD, tables, [((1,), told(2, 1.5)), ((1,), (3, 4, 2)), ((2,), told(-1, 2)),
            ((2,), told(5, 2)), ((2,), (3, 4, 2))], [
            ((1,), told(2, 2)), ((1,), told(1, 1)), ((1,), told(3, 2)), ((1,), told(5, 2)), ((2,), told(4, 2)),
            ((2,), told(0, 2)),
            ((2,), told(2, 2)), ((3,), told(9, 9)), ((1,), None), ((), told(2, 1.5)), ((1, 2), (3, 4, 2)),
            ((4,), (3, 4, 2)),
            ((True,), (3, 4, 2)),
        ])

    def test_divides(self):
        tables = lots(LEFT, area((1, 0), (3, 0), (3, 4), (1, 4)), line((4, 4), (6, 4)), None)
        self.check_values(WHOLE, tables, [((1, 2), (3, 4, 2)), ((3,), told(6, 4)), ((3,), told(5, 4)),
            ((), told(4, 0)), ((), (7, 4, 2))], [
            ((1, 2), told(1, 1)), ((1, 2), told(2, 1)), ((2, 3), told(4, 4)), ((1, 3), told(1, 1)), ((1, 2), None),
            ((3,), told(4, 4)),
            ((1,), told(1, 1)), ((3,), (7, 4, 2)), ((4,), told(9, 9)), ((5,), told(9, 9)), ((), told(3, 1)),
            ((), told(4, 4)),
            ((), told(5, 4)), ((), told(9, 9)), ((), None), ((1, 2, 3), (3, 4, 2)), ((2, 1), (3, 4, 2)),
            ((1, 2, 3), told(4, 0)),
            ((1,), told(9, 9)), ((3,), told(6, 5)), ((1, 2, 3), (7, 4, 2)), ((4,), told(4, 0)),
        ])

    def test_true_rules_have_no_breach(self):
        tables = lots(LEFT, RIGHT, zones=(SQUARE,))
        for rule in RULES[:6]:
            for value in (None, ((1, 2), None), ((1, 2), told(2, 2)), ((1,), told(1, 1)), ((), told(1, 1)),
                ((1,), None)):
                self.assertIs(is_breach(rule, tables, value), False)


class RuleTest(unittest.TestCase):
    def test_properties(self):
        self.assertEqual(RULE_KINDS, ("apart", "check", "divides", "single", "within"))
        for rule, kind, label, names, text in (
            (CLEAR, "apart", "clear", ("lots",), "clear: apart lots.plot"),
            (ONE, "single", "one", ("lots",), "one: single lots.plot"),
            (HELD, "within", "held", ("lots", "zones"), "held: within lots.plot zones.zone"),
            (WHOLE, "divides", "whole", ("lots",), "whole: divides lots.plot"),
            (LOW, "check", "low", ("lots",), "low: check lots"),
            (within_rule("z", "zones", "b", "lots", "a", at_end=True), "within", "z", ("lots", "zones"),
            "z: within zones.b lots.a at end"),
            (within_rule("z", "lots", "b", "lots", "a"), "within", "z", ("lots",), "z: within lots.b lots.a"),
            (apart_rule("a", "b", "c", at_end=True), "apart", "a", ("b",), "a: apart b.c at end"),
            (single_rule("a", "b", "c", at_end=True), "single", "a", ("b",), "a: single b.c at end"),
            (divides_rule("a", "b", "c", EMPTY, at_end=True), "divides", "a", ("b",), "a: divides b.c at end"),
            (check_rule("a", "b", (), at_end=True), "check", "a", ("b",), "a: check b at end"),
        ):
            self.assertIsInstance(rule, Rule)
            self.assertEqual((rule.kind, rule.label, rule.names, str(rule)), (kind, label, names, text))
            self.assertIs(rule.at_end, text.endswith("at end"))
        with self.assertRaises(TypeError):
            list(CLEAR)

    def test_equality(self):
        def made():
            """Rules that are all unlike, made anew."""
            return [
                apart_rule("a", "b", "c"), apart_rule("d", "b", "c"), apart_rule("a", "d", "c"),
                    apart_rule("a", "b", "d"),
                apart_rule("a", "b", "c", at_end=True), single_rule("a", "b", "c"),
                single_rule("a", "b", "c", at_end=True),
                within_rule("a", "b", "c", "b", "c"), within_rule("a", "b", "c", "d", "c"),
                within_rule("a", "b", "c", "b", "d"),
                within_rule("a", "b", "d", "b", "c"), within_rule("a", "b", "c", "b", "c", at_end=True),
                divides_rule("a", "b", "c", area((4, 0), (4, 4), (0, 4), (0, 0))), divides_rule("a", "b", "c", EMPTY),
                divides_rule("a", "b", "c", SQUARE, at_end=True), check_rule("a", "b", CHEAP), check_rule("a", "b", ()),
                check_rule("a", "b", ("less", ["column"], {"a": 1})), check_rule("a", "b", CHEAP, at_end=True),
                check_rule("a", "d", CHEAP),
            ]
        for one, rule in enumerate(made()):
            for other, second in enumerate(made()):
                self.assertIs(rule == second, one == other)
                self.assertIs(rule != second, one != other)
            for value in NO_RULES:
                self.assertIs(rule == value, False)

    def test_conditions_are_kept(self):
        inner, table = ["column", "price"], {"lots": lots()["lots"]}
        told_condition = ("and", ("less", inner, {"a": [1]}))
        rule = check_rule("low", "lots", told_condition)
        inner.append("more")
        told_condition[1][2]["a"].append(2)
        self.assertEqual(rule, check_rule("low", "lots", ("and", ("less", ["column", "price"], {"a": [1]}))))
        self.assertIs(fits(rule, table), False)

    def test_wrong_names(self):
        for name in NO_NAMES:
            for call in (apart_rule, single_rule):
                for names in ((name, "b", "c"), ("a", name, "c"), ("a", "b", name), (name, name, name)):
                    self.assertIsInstance(raised(call, *names, at_end=5), InvalidName)
            for place_at in range(5):
                names = ["a", "b", "c", "d", "e"]
                names[place_at] = name
                self.assertIsInstance(raised(within_rule, *names, at_end=5), InvalidName)
            for names in ((name, "b", "c"), ("a", name, "c"), ("a", "b", name)):
                self.assertIsInstance(raised(divides_rule, *names, None, at_end=5), InvalidName)
            for names in ((name, "b"), ("a", name)):
                self.assertIsInstance(raised(check_rule, *names, None, at_end=5), InvalidName)

    def test_wrong_values(self):
        for shape in NO_SHAPES:
            self.assertIsInstance(raised(divides_rule, "a", "b", "c", shape, at_end=5), InvalidShape)
        for condition in (None, True, 5, "and", ["and"], {}, SQUARE):
            self.assertIsInstance(raised(check_rule, "a", "b", condition, at_end=5), InvalidCondition)
        for at_end in (None, 0, 1, "", "True", (), [], (True,), SQUARE):
            for call, more in ((apart_rule, ("c",)), (single_rule, ("c",)), (within_rule, ("c", "d", "e")),
                (divides_rule, ("c", MORE)),
                    (check_rule, (CHEAP,))):
                self.assertIsInstance(raised(call, "a", "b", *more, at_end=at_end), InvalidOperation)
        error = raised(divides_rule, "a", "b", "c", MORE)
        self.assertIsInstance(error, TooMany)
        self.assertEqual(error.limit, 60)
        self.assertIsNone(raised(divides_rule, "a", "b", "c", SIXTY))


class AskedTest(unittest.TestCase):
    def test_fits(self):
        tables = lots(SQUARE, zones=(SQUARE,))
        for rule in RULES:
            self.assertIs(fits(rule, tables), True)
            self.assertIs(fits(rule, {}), False)
            self.assertIs(fits(rule, {"zones": tables["zones"]}), False)
            self.assertIs(fits(rule, {"lots": tables["zones"], "zones": tables["zones"]}), False)
        self.assertIs(fits(HELD, {"lots": tables["lots"]}), False)
        self.assertIs(fits(CLEAR, {"lots": tables["lots"], "other": Table({"a": "text"})}), True)
        for rule in (apart_rule("a", "lots", "price"), apart_rule("a", "lots", "no"), single_rule("a", "lots", "no"),
                within_rule("a", "lots", "name", "zones", "zone"), within_rule("a", "lots", "plot", "lots", "price"),
                within_rule("a", "lots", "plot", "zones", "plot"), divides_rule("a", "lots", "price", SQUARE),
                check_rule("a", "lots", ()), check_rule("a", "zones", CHEAP), check_rule("a", "lots", ("and", None)),
                check_rule("a", "lots", ("and",) * 61), check_rule("a", "lots", (1, [2], {"a": SQUARE}))):
            self.assertIs(fits(rule, tables), False, str(rule))
            for call in ASKED:
                self.assertIsInstance(raised(call, rule, tables), InvalidOperation)
            self.assertIsInstance(raised(is_breach, rule, tables, None), InvalidOperation)

    def test_wrong_arguments(self):
        for rule in NO_RULES:
            for call in (fits, *ASKED):
                self.assertIsInstance(raised(call, rule, None), InvalidRule)
            self.assertIsInstance(raised(is_breach, rule, None, None), InvalidRule)
        table = lots()["lots"]
        for tables in (None, True, 5, "lots", (), [], [("lots", table)], table, {"lots": None}, {"Lots": table},
            {1: table},
                {"lots": table, "zones": "zones"}, {"lots": table, "": table}, {("lots",): table}, {"lots": [table]}):
            for call in (fits, *ASKED):
                self.assertIsInstance(raised(call, CLEAR, tables), InvalidTable)
            self.assertIsInstance(raised(is_breach, CLEAR, tables, None), InvalidTable)

    def test_sizes_of_divides(self):
        parts = [dots(*[(60 * turn + k, 0) for k in range(60)]) for turn in range(2)]
        whole = divides_rule("all", "lots", "plot", joint(*parts[:1]))
        rest = [dots(*[(k, 5) for k in range(many)]) for many in (20, 21)]
        for call in ASKED:
            self.assertIsNone(raised(call, whole, lots(*parts, None, rest[0])))
        for tables in (lots(*parts, rest[1]), lots(*parts, rest[0], EMPTY, WELL)):
            for call in ASKED:
                error = raised(call, whole, tables)
                self.assertIsInstance(error, TooMany)
                self.assertEqual(error.limit, 200)
            self.assertIsInstance(raised(is_breach, whole, tables, None), TooMany)
            # no two shapes are drawn together with the others
            self.assertIsNone(raised(is_true, CLEAR, tables))
        self.assertEqual(breached_rows(whole, lots(*parts, rest[0])), ((2,), (3,)))

    def test_sizes_of_within(self):
        def row(many, height):
            return dots(*[(k, height) for k in range(many)])
        near = [row(60, 0), joint(row(29, 0), dots((0, 9))), row(50, 0)]
        for many, zones, is_refused in (
            (60, near, False), (60, [*near, dots((0, 0))], True),
            (60, [*near, dots((60, 0)), dots((0, 1)), None, EMPTY], False),
            # boxes meet, though the shapes do not
            (60, [*near, dots((1, 2, 2))], False), (60, [*near, dots((1, 0, 2))], True),
            (59, [*near, dots((1, 0, 2))], False),
            (59, [*near, dots((1, 0, 2), (59, 1))], True),
        ):
            tables = lots(WELL, row(many, 0), zones=zones)
            for call in ASKED:
                error = raised(call, HELD, tables)
                self.assertEqual(isinstance(error, TooMany) and error.limit, is_refused and 200)
            self.assertEqual(isinstance(raised(is_breach, HELD, tables, None), TooMany), is_refused)
        # in one table each shape meets its own box
        own = RULES[7]
        self.assertIsNone(raised(is_true, own, lots(row(60, 0), row(40, 0), row(40, 0))))
        self.assertIsInstance(raised(is_true, own, lots(row(60, 0), row(41, 0), row(40, 0))), TooMany)

    def test_witnesses_lie_inside(self):
        found = breach(CLEAR, lots(FRAME, ROAD))
        self.assertEqual([place(shape, found[1]) for shape in (FRAME, ROAD)], ["inside", "inside"])


if __name__ == "__main__":
    unittest.main()
