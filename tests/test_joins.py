"""Joins and join plans: points 0.19, 14.1 and 14.2."""

import random
import unittest

from tests.drawn_tables import SQUARES, drawn_table, searched_both_plainly, searched_plainly
from tests.helpers import EMPTY, FRAME, HUGE, ROAD, SQUARE, WELL, raised
from tests.test_plans import unpacked
from tests.test_tables import NO_TABLES
from wherebase.errors import InvalidOperation, InvalidPlan, InvalidTable, InvalidTree
from wherebase.meet.meets import RELATIONS
from wherebase.plan.joins import is_join, kept_pairs, pairs, run_join
from wherebase.plan.plans import tree_of
from wherebase.shape.shapes import area, dots, line
from wherebase.table.conditions import truth
from wherebase.table.tables import Table
from wherebase.tree.boxes import box_of
from wherebase.tree.trees import Tree

LOTS = Table({"name": "text", "spot": "shape", "worth": "number"})
for told in ({"name": "a", "spot": SQUARE, "worth": 5}, {"name": "b", "spot": WELL},
    {"spot": ROAD, "worth": 3, "name": "a"},
        {"worth": 5, "name": ""}, {"spot": EMPTY}):
    LOTS = LOTS.put(told)
WAYS = Table({"way": "shape", "label": "text", "price": "number"})
for told in ({"way": FRAME, "label": "a"}, {"way": line((6, 0), (6, 4)), "price": 5}, {"label": "b", "price": 3},
    {"way": EMPTY}):
    WAYS = WAYS.put(told)
MEETS, SAME_TEXT = ("meets", "spot", "way"), ("same", "name", "label")
PLANS = (("loops",), ("tree",), ("trees",))
NO_JOINS = (
    None, True, 5, "meets", (), [], {}, ("meets",), ("meets", "spot"), ["meets", "spot", "way"],
        ("meets", "way", "spot"),
    ("meets", "spot", "way", 1), ("Meets", "spot", "way"), ("beside", "spot", "way"), ("meets", "name", "label"),
    ("meets", "spot", "label"), ("meets", "worth", "way"), ("meets", "spot", "no"), ("meets", "no", "way"),
    ("less", "worth", "price"),
    ("near", "spot", "way"), ("near", "spot", "way", -1), ("near", "spot", "way", (1, -1)),
    ("near", "spot", "way", (2, 2)),
    ("near", "spot", "way", (-1, 2)), ("near", "spot", "way", True), ("near", "spot", "way", None),
    ("near", "spot", "way", 1, 1),
    ("near", "worth", "price", 1), ("same", "spot", "label"), ("same", "worth", "label"), ("same", "name", "price"),
    ("same", "name", "label", 1), ("same", "no", "no"), ("same", "name"), ("missing", "name"),
    ("same", ("column", "name"), "label"),
    ("same", ["name"], "label"), ("same", "name", ["label"]), (["same"], "name", "label"), (SQUARE, SQUARE, SQUARE),
    ("same", None, None), ("and", "spot", "way"), ("same", 1, 1), ("not", MEETS),
)


def is_true_told(one_table, other_table, join, number, other):
    """Whether a join is true of two rows, told by a condition about one row with both values."""
    kind = one_table.kinds[join[1]]
    row = Table({"a": kind, "b": kind}).put({"a": one_table.row(number)[join[1]], "b": other_table.row(other)[join[2]]})
    return truth(row, (join[0], ("column", "a"), ("column", "b"), *join[3:]), 1) is True


def widened(form, more):
    word, members = form
    spread = [(box[0] - more, box[1] - more, box[2] + more, box[3] + more) for box in
        [member[1] if word == "leaf" else member[0] for member in members]]
    if word == "leaf":
        return (word, tuple((member[0], box) for member, box in zip(members, spread)))
    return (word, tuple((box, widened(member[1], more)) for member, box in zip(members, spread)))


def reach_of(join):
    """The least integer whose square is at least the number of a join."""
    if join[0] != "near":
        return 0
    top, bottom = join[3] if isinstance(join[3], tuple) else (join[3], 1)
    more = 0
    while more * more * bottom < top:
        more += 1
    return more


def run_told(one_table, other_table, join, plan, one_tree, other_tree):
    """The decided pairs and the cost of a join plan by the words of 14.2."""
    every = [(one, other) for one in one_table for other in other_table]
    if plan == ("loops",):
        return every, 10 * len(every)
    decided = [(one, other) for one,
        other in every if not one_table.row(one)[join[1]] or not other_table.row(other)[join[2]]]
    more, cost = reach_of(join), 0
    if plan == ("tree",):
        for number in one_table:
            shape = one_table.row(number)[join[1]]
            if shape:
                left, bottom, right, top = box_of(shape)
                found, looked = searched_plainly(other_tree.form,
                    (left - more, bottom - more, right + more, top + more))
                decided += [(number, other) for other in found]
                cost += looked
    else:
        found, cost = searched_both_plainly(one_tree.form, widened(other_tree.form, more))
        decided += found
    return decided, 10 * len(decided) + cost


class JoinsTest(unittest.TestCase):
    def test_is_join(self):
        for word in RELATIONS:
            self.assertIs(is_join(LOTS, WAYS, (word, "spot", "way")), True)
        for join in (MEETS, SAME_TEXT, ("same", "spot", "way"), ("same", "worth", "price"), ("near", "spot", "way", 0),
                ("near", "spot", "way", (5, 2)), ("near", "spot", "way", HUGE)):
            self.assertIs(is_join(LOTS, WAYS, join), True)
        for join in NO_JOINS:
            self.assertIs(is_join(LOTS, WAYS, join), False, join)
        self.assertIs(is_join(LOTS, LOTS, ("within", "spot", "spot")), True)
        self.assertIs(is_join(LOTS, LOTS, ("same", "name", "name")), True)

    def test_pairs(self):
        for join, expected in (
            (MEETS, ((1, 1), (3, 1))), (("near", "spot", "way", 1), ((1, 1), (2, 1), (3, 1), (3, 2))),
            (("near", "spot", "way", 0), ((1, 1), (3, 1))), (("near", "spot", "way", (1, 2)), ((1, 1), (3, 1))),
            (("near", "spot", "way", 4), ((1, 1), (1, 2), (2, 1), (3, 1), (3, 2))),
            (("same", "worth", "price"), ((1, 2), (3, 3), (4, 2))), (SAME_TEXT, ((1, 1), (2, 3), (3, 1))),
            (("same", "spot", "way"), ((5, 4),)), (("equal", "spot", "way"), ((5, 4),)),
            (("within", "spot", "way"), ((5, 1), (5, 2), (5, 4))),
            (("holds", "spot", "way"), ((1, 1), (1, 4), (2, 4), (3, 4), (5, 4))),
            (("apart", "spot", "way"), ((1, 2), (1, 4), (2, 1), (2, 2), (2, 4), (3, 2), (3, 4), (5, 1), (5, 2),
            (5, 4))),
        ):
            self.assertEqual(pairs(LOTS, WAYS, join), expected, join)
        self.assertEqual(pairs(LOTS, LOTS, ("meets", "spot", "spot")),
            ((1, 1), (1, 2), (1, 3), (2, 1), (2, 2), (2, 3), (3, 1), (3, 2), (3, 3)))
        self.assertEqual(pairs(LOTS, LOTS, ("same", "spot", "spot")), ((1, 1), (2, 2), (3, 3), (5, 5)))
        self.assertEqual(pairs(LOTS, LOTS, ("same", "name", "name")), ((1, 1), (1, 3), (2, 2), (3, 1), (3, 3), (4, 4)))
        self.assertEqual(pairs(LOTS, Table({"way": "shape"}), MEETS), ())
        again = Table({"way": "shape"}).put({"way": line((0, 0), (4, 0))}).put({"way": area((4, 4), (0, 4), (0, 0),
            (4, 0))})
        self.assertEqual(pairs(LOTS, again, ("same", "spot", "way")), ((1, 2),))

    def test_kept_pairs(self):
        self.assertEqual(kept_pairs(LOTS, WAYS, MEETS), ((1, 1), (2, None), (3, 1), (4, None), (5, None)))
        self.assertEqual(kept_pairs(LOTS, WAYS, ("same", "worth", "price")),
            ((1, 2), (2, None), (3, 3), (4, 2), (5, None)))
        self.assertEqual(kept_pairs(LOTS, WAYS.without(1, 2, 3, 4), MEETS), tuple((number, None) for number in LOTS))
        self.assertEqual(kept_pairs(LOTS.without(1, 2, 3, 4, 5), WAYS, MEETS), ())
        self.assertEqual(kept_pairs(LOTS, LOTS, ("same", "name", "name"))[:3], ((1, 1), (1, 3), (2, 2)))
        self.assertEqual(kept_pairs(LOTS.without(1, 2), LOTS, ("near", "spot", "spot", 0)),
            ((3, 1), (3, 2), (3, 3), (4, None), (5, None)))

    def test_costs(self):
        spots = Tree.told(("leaf", ((1, (0, 0, 4, 4)), (2, (2, 2, 2, 2)), (3, (-1, 2, 5, 2)))))
        ways = Tree.told(("leaf", ((2, (6, 0, 6, 4)), (1, (0, 0, 4, 4)))))
        # 8 pairs with row 4 or 5 of the lots, 6 with row 3 or 4 of the ways
        for join, expected in ((MEETS, (200, 176, 176)), (("near", "spot", "way", 1), (200, 186, 186)),
                (("near", "spot", "way", (5, 2)), (200, 196, 196)), (("near", "spot", "way", 9), (200, 196, 196)),
                (("near", "spot", "way", 16), (200, 206, 206)),
                (("same", "spot", "way"), (200, 176, 176))):
            for plan, cost in zip(PLANS, expected):
                found = run_join(LOTS, WAYS, join, plan, one_tree=spots, other_tree=ways)
                self.assertEqual(found, (pairs(LOTS, WAYS, join), cost), (join, plan))
        for join in (("apart", "spot", "way"), SAME_TEXT, ("same", "worth", "price")):
            self.assertEqual(run_join(LOTS, WAYS, join, ("loops",)), (pairs(LOTS, WAYS, join), 200))

    def test_unlike_heights(self):
        many = Table({"way": "shape"})
        for k in range(20):
            many = many.put({"way": dots((k, k % 3))})
        for one, other, join in ((LOTS, many, ("meets", "spot", "way")), (many, LOTS, ("near", "way", "spot", 2)),
                (many, many, ("near", "way", "way", 1))):
            for make in (tree_of, unpacked):
                one_tree, other_tree = make(one, join[1]), make(other, join[2])
                for plan in PLANS:
                    _, cost = run_told(one, other, join, plan, one_tree, other_tree)
                    found = run_join(one, other, join, plan, one_tree=one_tree, other_tree=other_tree)
                    self.assertEqual(found, (pairs(one, other, join), cost))

    def test_drawn(self):
        rows = random.Random(140)
        for _ in range(60):
            one, other = drawn_table(rows, rows.randint(0, 9)), drawn_table(rows, rows.randint(0, 9))
            if rows.random() < 0.2:
                other = one
            word = rows.choice([*RELATIONS, "near", "near", "near", "same", "same"])
            columns = [rows.choice(["spot", "way"]), rows.choice(["spot", "way"])]
            if word == "same" and rows.random() < 0.5:
                columns = rows.choice([["worth", "cost"], ["name", "name"]])
            join = (word, *columns, *([rows.choice(SQUARES)] if word == "near" else []))
            told = tuple((number, second) for number in one for second in other if is_true_told(one, other, join,
                number, second))
            self.assertEqual(pairs(one, other, join), told)
            kept = [(number, second) for number in one
                for second in [pair[1] for pair in told if pair[0] == number] or [None]]
            self.assertEqual(kept_pairs(one, other, join), tuple(kept))
            self.check_plans(rows, one, other, join, told)

    def check_plans(self, rows, one, other, join, told):
        has_trees = join[0] != "apart" and one.kinds[join[1]] == "shape"
        one_tree = other_tree = None
        if one.kinds[join[1]] == "shape":
            make = rows.choice([tree_of, unpacked])
            one_tree, other_tree = make(one, join[1]), make(other, join[2])
        for plan in PLANS:
            if plan != ("loops",) and not has_trees:
                error = raised(run_join, one, other, join, plan, one_tree=one_tree, other_tree=other_tree)
                self.assertIsInstance(error, InvalidPlan)
                continue
            decided, cost = run_told(one, other, join, plan, one_tree, other_tree)
            self.assertEqual(run_join(one, other, join, plan, one_tree=one_tree, other_tree=other_tree), (told, cost))
            self.assertEqual([pair for pair in told if pair not in decided], [])

    def test_fractions(self):
        one = Table({"way": "shape"}).put({"way": dots((0, 0))})
        other = Table({"way": "shape"}).put({"way": dots((5, 2, 2))})
        # the square of the distance is 29 / 4, the box is (2, 1, 3, 1)
        trees = {"one_tree": tree_of(one, "way"), "other_tree": tree_of(other, "way")}
        for square, expected, cost in ((7, (), 11), ((29, 4), ((1, 1),), 11), ((28, 5), (), 11), (4, (), 11),
            ((15, 4), (), 11), (1, (), 1)):
            for plan in PLANS:
                found = run_join(one, other, ("near", "way", "way", square), plan, **trees)
                self.assertEqual(found, (expected, 10 if plan == ("loops",) else cost))


class WrongArgumentsTest(unittest.TestCase):
    def test_tables(self):
        for table in NO_TABLES:
            for one, other in ((table, LOTS), (LOTS, table), (table, table)):
                for call in (is_join, pairs, kept_pairs):
                    self.assertIsInstance(raised(call, one, other, None), InvalidTable)
                self.assertIsInstance(raised(run_join, one, other, None, None, one_tree=5), InvalidTable)

    def test_joins(self):
        for join in NO_JOINS:
            for call in (pairs, kept_pairs):
                self.assertIsInstance(raised(call, LOTS, WAYS, join), InvalidOperation)
            self.assertIsInstance(raised(run_join, LOTS, WAYS, join, None, one_tree=5), InvalidOperation)

    def test_plans(self):
        for plan in (None, True, "loops", [], (), ["loops"], ("Loops",), ("loops", "spot"), ("tree", "spot"),
            ("trees", 1), ("all",),
                {}, SQUARE, (("loops",),), (None,)):
            self.assertIsInstance(raised(run_join, LOTS, WAYS, MEETS, plan, one_tree=5, other_tree=5), InvalidPlan)
        for join in (SAME_TEXT, ("same", "worth", "price"), ("apart", "spot", "way")):
            for plan in PLANS[1:]:
                self.assertIsInstance(raised(run_join, LOTS, WAYS, join, plan, one_tree=5, other_tree=5), InvalidPlan)

    def test_trees(self):
        one, other = tree_of(LOTS, "spot"), tree_of(WAYS, "way")
        for tree in (None, True, 5, "tree", (), {}, one.form, Tree(), other.without(1), other.put(3, (0, 0, 0, 0)),
                other.moved(1, (0, 0, 4, 5)), one):
            for one_tree in (one, None, 5):
                self.assertIsInstance(raised(run_join, LOTS, WAYS, MEETS, ("tree",), one_tree=one_tree,
                    other_tree=tree), InvalidTree)
            self.assertIsInstance(raised(run_join, LOTS, WAYS, MEETS, ("trees",), one_tree=one, other_tree=tree),
                InvalidTree)
            if tree is not one:
                self.assertIsInstance(raised(run_join, LOTS, WAYS, MEETS, ("trees",), one_tree=tree, other_tree=other),
                    InvalidTree)
            # a tree that the plan does not use is not looked at
            self.assertEqual(run_join(LOTS, WAYS, MEETS, ("loops",), one_tree=tree, other_tree=tree)[1], 200)
            self.assertEqual(run_join(LOTS, WAYS, MEETS, ("tree",), one_tree=tree, other_tree=other)[1], 176)
        self.assertIsInstance(raised(run_join, LOTS, WAYS, MEETS, ("tree",)), InvalidTree)
        self.assertIsInstance(raised(run_join, LOTS, WAYS, MEETS, ("trees",), other_tree=other), InvalidTree)


if __name__ == "__main__":
    unittest.main()
