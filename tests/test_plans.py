"""Trees of tables, plans and reasons: points 0.19, 0.23 and 13.3."""

import random
import unittest

from tests.drawn_tables import KINDS_OF, SPOT, WORTH, drawn_condition, drawn_table, entries_at, searched_plainly
from tests.helpers import EMPTY, FRAME, HUGE, NO_INTEGERS, ROAD, SQUARE, WELL, raised
from tests.test_questions import NO_ORDERS
from tests.test_tables import NO_TABLES
from wherebase.errors import (
    InvalidCondition, InvalidNumber, InvalidOperation, InvalidPlan, InvalidQuestion, InvalidTable, InvalidTree,
    UnknownName,
)
from wherebase.plan.plans import ROW_COST, are_fitting, best_plan, plans, reasons, run, tree_of
from wherebase.plan.questions import answer
from wherebase.plan.windows import window
from wherebase.shape.shapes import dots
from wherebase.table.conditions import is_condition, truths
from wherebase.table.tables import Table
from wherebase.tree.boxes import box_of
from wherebase.tree.trees import Tree

TABLE = Table({"spot": "shape", "way": "shape", "worth": "number"})
for told in ({"spot": SQUARE, "way": WELL}, {"spot": WELL, "worth": 3}, {"spot": EMPTY, "way": ROAD},
    {"way": EMPTY, "worth": 4},
        {"spot": dots((9, 9)), "way": dots((9, 9))}, {"spot": ROAD, "way": FRAME}):
    TABLE = TABLE.put(told)
TREES = {"spot": tree_of(TABLE, "spot"), "way": tree_of(TABLE, "way")}
MET = ("meets", SPOT, ("value", dots((0, 2))))
NO_COLUMNS = (None, "no", "Spot", "", 5, True, ("spot",), ["spot"], {}, SQUARE, SPOT)


def unpacked(table, column):
    """A tree of the rows of a table that is as right as that of `tree_of`, but of another form."""
    tree = Tree()
    for number, box in sorted(tree_of(table, column).boxes.items(), reverse=True):
        tree = tree.put(number, box)
    entries = [(number, box) for _, number, box in entries_at(tree.form)]
    forms = []
    while entries:
        count = 3 if len(entries) in (3, 5) else min(len(entries), 2)
        forms.append(("leaf", tuple(entries[-count:])))
        entries = entries[:-count]
    while len(forms) > 1:
        rows = []
        while forms:
            count = 3 if len(forms) in (3, 5) else min(len(forms), 2)
            rows.append(("node", tuple((Tree.told(form).box, form) for form in forms[:count])))
            forms = forms[count:]
        forms = rows
    return Tree.told(forms[0]) if forms else Tree()


def decided_plainly(table, trees, condition, plan):
    """The rows that a plan decides, and its cost, by the words of 13.3."""
    decided, cost = set(table.numbers), 0
    for column in plan[1:]:
        told = window(table, condition, column)[0]
        if told == "all":
            continue
        own = {number for number in table if not table.row(number)[column]}
        if told != "none":
            found, looked = searched_plainly(trees[column].form, told)
            own |= set(found)
            cost += looked
        decided &= own
    return decided, 10 * len(decided) + cost


class TreeOfTest(unittest.TestCase):
    def test_tree_of(self):
        self.assertEqual(TREES["spot"].boxes, {1: (0, 0, 4, 4), 2: (2, 2, 2, 2), 5: (9, 9, 9, 9), 6: (-1, 2, 5, 2)})
        self.assertEqual(TREES["way"].boxes, {1: (2, 2, 2, 2), 3: (-1, 2, 5, 2), 5: (9, 9, 9, 9), 6: (0, 0, 4, 4)})
        self.assertEqual(tree_of(Table(KINDS_OF).put({}), "way"), Tree())
        rows = random.Random(133)
        table = drawn_table(rows, 40)
        found = tree_of(table, "spot")
        expected = {number: box_of(table.row(number)["spot"]) for number in table if table.row(number)["spot"]}
        self.assertEqual(found.boxes, expected)

    def test_are_fitting(self):
        spot, way = TREES["spot"], TREES["way"]
        for trees in ({}, {"spot": spot}, {"way": way}, TREES, {"spot": unpacked(TABLE, "spot")},
                {"way": way.put(7, (0, 0, 1, 1)).without(7), "spot": Tree.told(spot.form)}):
            self.assertIs(are_fitting(TABLE, trees), True)
        for value in (None, True, 5, "spot", (), [], (("spot", spot),), spot, {"spot": None}, {"spot": spot.form},
                {"spot": spot.boxes}, {"spot": way}, {"spot": spot.without(2)}, {"spot": spot.put(3, (0, 0, 0, 0))},
                {"spot": spot.moved(2, (2, 2, 2, 3))}, {"spot": Tree()}, {"spot": spot, "worth": Tree()},
                {"no": Tree()},
                {("spot",): spot}, {1: spot}, {None: spot}, {"Spot": spot}, {"spot": spot, "way": spot},
                {"worth": spot}):
            self.assertIs(are_fitting(TABLE, value), False, value)
        self.assertIs(are_fitting(TABLE.without(2), TREES), False)
        self.assertIs(are_fitting(TABLE.without(3, 4), {"spot": spot}), True)
        self.assertIs(are_fitting(TABLE.change(2, {"spot": FRAME}), {"spot": spot}), False)
        self.assertIs(are_fitting(TABLE.change(5, {"spot": dots((9, 9))}), {"spot": spot}), True)

    def test_wrong_arguments(self):
        for table in NO_TABLES:
            self.assertIsInstance(raised(tree_of, table, "no"), InvalidTable)
            self.assertIsInstance(raised(are_fitting, table, None), InvalidTable)
        for column in NO_COLUMNS:
            error = raised(tree_of, TABLE, column)
            self.assertIsInstance(error, UnknownName)
            self.assertIs(error.name, column)
        self.assertIsInstance(raised(tree_of, TABLE, "worth"), InvalidOperation)


class RunTest(unittest.TestCase):
    def test_plans_and_costs(self):
        self.assertEqual(ROW_COST, 10)
        spot, way = [Tree.told(("leaf", tuple(sorted(TREES[name].boxes.items())))) for name in ("spot", "way")]
        trees = {"spot": spot, "way": way}
        by_way = ("meets", ("column", "way"), ("value", dots((9, 9))))
        for condition, expected in (
            # the rows that the search finds, and those with a missing or an empty shape
            (MET, ((44, ("tree", "spot")), (44 + 0 * 60, ("both", "spot", "way")), (60, ("all",)),
            (60, ("tree", "way")))),
            (by_way, ((34, ("both", "spot", "way")), (34, ("tree", "way")), (60, ("all",)), (60, ("tree", "spot")))),
            (("and", MET, by_way), ((18, ("both", "spot", "way")), (34, ("tree", "way")), (44, ("tree", "spot")),
            (60, ("all",)))),
            (("or", MET, by_way), ((60, ("all",)), (60, ("both", "spot", "way")), (60, ("tree", "spot")),
            (60, ("tree", "way")))),
            (("missing", SPOT), ((20, ("both", "spot", "way")), (20, ("tree", "spot")), (60, ("all",)),
            (60, ("tree", "way")))),
            (("and", ("missing", SPOT), by_way),
                ((14, ("both", "spot", "way")), (20, ("tree", "spot")), (34, ("tree", "way")), (60, ("all",)))),
        ):
            self.assertEqual(plans(TABLE, trees, condition), tuple(sorted(expected)))
            self.assertEqual(best_plan(TABLE, trees, condition), sorted(expected)[0][1])
        self.assertEqual(plans(TABLE, {}, MET), ((60, ("all",)),))
        self.assertEqual(plans(TABLE, {"way": way}, MET), ((60, ("all",)), (60, ("tree", "way"))))
        self.assertEqual(plans(Table(KINDS_OF), {"way": Tree()}, MET), ((0, ("all",)), (0, ("tree", "way"))))
        self.assertEqual(run(TABLE, trees, MET, ("tree", "spot")), ((1, 6), 44))
        self.assertEqual(run(TABLE, trees, MET, ("tree", "spot"), order=((("area", SPOT), "up"),)), ((6, 1), 44))
        self.assertEqual(run(TABLE, trees, MET, ("all",), limit=1), ((1,), 60))
        self.assertEqual(run(TABLE, trees, MET, ("both", "spot", "way"), limit=0), ((), 44))

    def test_drawn(self):
        rows = random.Random(134)
        words = {}
        for turn in range(120):
            table = drawn_table(rows, rows.choice([0, 3, 8, 15, 30]))
            condition = drawn_condition(rows, rows.randint(0, 3))
            if not is_condition(table, condition):
                continue
            make = unpacked if turn % 2 else tree_of
            trees = {column: make(table, column) for column in rows.choice([("spot", "way"), ("spot", "way"), ("way",),
                ()])}
            self.assertIs(are_fitting(table, trees), True)
            order = rows.choice([(), ((WORTH, "down"),)])
            limit = rows.choice([None, 0, 1, 2, 30])
            told = []
            for plan in [("all",), ("tree", "spot"), ("tree", "way"), ("both", "spot", "way")]:
                if set(plan[1:]) - set(trees):
                    self.assertIsInstance(raised(run, table, trees, condition, plan), InvalidPlan)
                    continue
                decided, cost = decided_plainly(table, trees, condition, plan)
                told.append((cost, plan))
                expected = answer(table, condition, order=order, limit=limit)
                self.assertEqual(run(table, trees, condition, plan, order=order, limit=limit), (expected, cost))
                self.check_reasons(table, trees, condition, plan, order, limit, decided, words)
            self.assertEqual(plans(table, trees, condition), tuple(sorted(told)))
            self.assertEqual(best_plan(table, trees, condition), min(told)[1])
        self.assertEqual(sorted(words), ["apart", "behind", "false", "never", "told", "unknown"])

    def check_reasons(self, table, trees, condition, plan, order, limit, decided, words):
        found = reasons(table, trees, condition, plan, order=order, limit=limit)
        self.assertEqual(list(found), list(table))
        told, so = run(table, trees, condition, plan, order=order, limit=limit)[0], truths(table, condition)
        for number, reason in found.items():
            words[reason[0]] = True
            if number not in decided:
                self.assertEqual(reason, self.reason_out(table, trees, condition, plan, number))
                self.assertIsNot(so[number], True)
            elif number in told:
                self.assertEqual(reason, ("told", told.index(number)))
            else:
                self.assertEqual(reason, {True: ("behind",), False: ("false",), None: ("unknown",)}[so[number]])

    def reason_out(self, table, trees, condition, plan, number):
        """The reason for which a row is not decided, by the first column that leaves it out."""
        for column in plan[1:]:
            box = window(table, condition, column)[0]
            if box == "all" or not table.row(number)[column]:
                continue
            if box == "none":
                return ("never", column)
            places = [place for place, own, _ in entries_at(trees[column].form) if own == number]
            for place, word in trees[column].search_paper(box)[1]:
                if places[0][:len(place)] == place:
                    return ("apart", column, place, word)
        return None

    def test_reasons(self):
        leaf = ("leaf", ((5, (9, 9, 9, 9)), (1, (0, 0, 4, 4))))
        other = ("leaf", ((2, (2, 2, 2, 2)), (6, (-1, 2, 5, 2))))
        spot = Tree.told(("node", (((0, 0, 9, 9), leaf), ((-1, 2, 5, 2), other))))
        trees = {"spot": spot, "way": TREES["way"]}
        self.assertEqual(reasons(TABLE, trees, MET, ("tree", "spot")), {
            1: ("told", 0), 2: ("apart", "spot", (1, 0), "right"), 3: ("false",), 4: ("unknown",),
            5: ("apart", "spot", (0, 0), "right"), 6: ("told", 1),
        })
        away = ("meets", SPOT, ("value", dots((9, 9))))
        self.assertEqual(reasons(TABLE, trees, away, ("tree", "spot"), limit=0), {
            1: ("apart", "spot", (0, 1), "left"), 2: ("apart", "spot", (1,), "left"), 3: ("false",), 4: ("unknown",),
            5: ("behind",), 6: ("apart", "spot", (1,), "left"),
        })
        both = ("and", away, ("missing", ("column", "way")))
        self.assertEqual(reasons(TABLE, trees, both, ("both", "spot", "way")), {
            1: ("apart", "spot", (0, 1), "left"), 2: ("apart", "spot", (1,), "left"), 3: ("never", "way"),
                4: ("false",),
            5: ("never", "way"), 6: ("apart", "spot", (1,), "left"),
        })
        self.assertEqual(reasons(TABLE, trees, both, ("all",)),
            {1: ("false",), 2: ("false",), 3: ("false",), 4: ("false",), 5: ("false",), 6: ("false",)})
        self.assertEqual(reasons(TABLE, {}, MET, ("all",), order=((("area", SPOT), "up"),), limit=1)[1], ("behind",))

    def test_wrong_arguments(self):
        for table in NO_TABLES:
            for call in (plans, best_plan):
                self.assertIsInstance(raised(call, table, None, None), InvalidTable)
            for call in (run, reasons):
                self.assertIsInstance(raised(call, table, None, None, None, order=None, limit=-1), InvalidTable)
        for trees in (None, [], {"spot": None}, {"no": Tree()}, {"spot": TREES["way"]}):
            for call in (plans, best_plan):
                self.assertIsInstance(raised(call, TABLE, trees, None), InvalidTree)
            for call in (run, reasons):
                self.assertIsInstance(raised(call, TABLE, trees, None, None, order=None, limit=-1), InvalidTree)
        for condition in (None, SPOT, ("no",), [MET], ("meets", WORTH, SPOT)):
            for call in (plans, best_plan):
                self.assertIsInstance(raised(call, TABLE, TREES, condition), InvalidCondition)
            for call in (run, reasons):
                self.assertIsInstance(raised(call, TABLE, TREES, condition, None, order=None, limit=-1),
                    InvalidCondition)
        for call in (run, reasons):
            for plan in (None, True, "all", ("All",), [], ["all"], (), ("all", "spot"), ("tree",), ("tree", "worth"),
                ("tree", "no"),
                    ("tree", "spot", "way"), ("both", "spot"), ("both", "way", "spot"), ("both", "spot", "spot"),
                    ("both", "spot", "worth"), ("both", "spot", "way", "way"), ("tree", ["spot"]), ("loops",), {},
                    SQUARE, 1):
                self.assertIsInstance(raised(call, TABLE, TREES, MET, plan, order=None, limit=-1), InvalidPlan)
            self.assertIsInstance(raised(call, TABLE, {"way": TREES["way"]}, MET, ("tree", "spot")), InvalidPlan)
            for order in NO_ORDERS:
                self.assertIsInstance(raised(call, TABLE, TREES, MET, ("all",), order=order, limit=-1), InvalidQuestion)
            for limit in (*NO_INTEGERS, -1, -HUGE):
                if limit is not None:
                    error = raised(call, TABLE, TREES, MET, ("all",), limit=limit)
                    self.assertIsInstance(error, InvalidNumber)
                    self.assertIs(error.value, limit)


if __name__ == "__main__":
    unittest.main()
