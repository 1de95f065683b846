"""The main statements over the whole program: points 0.23 and 0.24, and 0.2 for all kinds of objects."""

import random
import unittest

from tests.drawn_tables import KINDS_OF, SPOT, WORTH, drawn_condition, drawn_row, drawn_table
from tests.helpers import EMPTY, FRAME, ROAD, SQUARE, WELL, led_shape, raised
from wherebase.book.books import Book
from wherebase.draw.drawings import Drawing
from wherebase.errors import Broken
from wherebase.maps.maps import Map, same
from wherebase.measure.measures import area_of, middle
from wherebase.meet.meets import is_related, nine
from wherebase.net.layers import covered, fault
from wherebase.plan.plans import are_fitting, best_plan, plans, reasons, run, tree_of
from wherebase.plan.questions import answer, nearest
from wherebase.rule.rules import apart_rule, breached_rows, check_rule, divides_rule, is_true, single_rule
from wherebase.shape.overlays import common, covers, either, less
from wherebase.shape.shapes import area, dots, line
from wherebase.table.conditions import is_condition, truth, truths
from wherebase.table.tables import Table
from wherebase.text.formats import read_table, write_table
from wherebase.tree.boxes import box_of
from wherebase.tree.trees import Tree


class EveryAnswerTest(unittest.TestCase):
    def check_answers(self, rows, table, trees):
        """Each plan for a drawn condition gives what is true of all rows, one by one."""
        self.assertIs(are_fitting(table, trees), True)
        condition = drawn_condition(rows, 2)
        if not is_condition(table, condition):
            return
        told = tuple(number for number in table if truth(table, condition, number) is True)
        self.assertEqual(answer(table, condition), told)
        found = plans(table, trees, condition)
        for cost, plan in found:
            self.assertEqual(run(table, trees, condition, plan), (told, cost))
            why = reasons(table, trees, condition, plan)
            self.assertEqual(tuple(number for number in why if why[number][0] == "told"), told)
        self.assertEqual(best_plan(table, trees, condition), found[0][1])

    def test_tables_and_trees_edited_together(self):
        rows = random.Random(230)
        for _ in range(6):
            table, trees = Table(KINDS_OF), {"spot": Tree(), "way": Tree()}
            for _ in range(25):
                step = rows.choice(["put", "put", "change", "out"]) if len(table) else "put"
                number = table.next_number if step == "put" else rows.choice(table.numbers)
                values = drawn_row(rows, KINDS_OF)
                if step == "out":
                    table, values = table.without(number), {"spot": None, "way": None}
                else:
                    table = table.put(values) if step == "put" else table.change(number, values)
                for column in ("spot", "way"):
                    box = box_of(values[column]) if values[column] else None
                    if number in trees[column]:
                        trees[column] = trees[column].moved(number, box) if box else trees[column].without(number)
                    elif box:
                        trees[column] = trees[column].put(number, box)
                self.check_answers(rows, table, trees)

    def test_books(self):
        rows = random.Random(231)
        rules = (apart_rule("apart", "lots", "spot"), check_rule("low", "lots", ("less", WORTH, ("value", 3))),
            single_rule("one", "lots", "name", at_end=True))
        book = Book({"lots": Table(KINDS_OF)}, *rules)
        for _ in range(60):
            transaction = book.begin()
            for _ in range(rows.randint(1, 4)):
                raised(transaction.put, "lots", drawn_row(rows, KINDS_OF))
                numbers = transaction.table("lots").numbers
                if numbers and rows.random() < 0.3:
                    raised(transaction.take_out, "lots", rows.choice(numbers))
            raised(transaction.end)
            if rows.random() < 0.2:
                raised(rows.choice([book.undo, book.redo]))
        self.assertGreater(len(book), 20)
        for version in range(len(book)):
            table = book.table("lots", version=version)
            for rule in rules:
                self.assertIs(is_true(rule, {"lots": table}), True)
                self.assertEqual(breached_rows(rule, {"lots": table}), ())
            self.assertEqual(read_table(write_table(table)), table)
            self.check_answers(rows, table, {"spot": tree_of(table, "spot"), "way": tree_of(table, "way")})


class UntrueStatementsTest(unittest.TestCase):
    """One example for each statement of 0.24."""

    def test_either_is_not_associative(self):
        self.assertEqual((either(either(SQUARE, SQUARE), WELL), either(SQUARE, either(SQUARE, WELL))), (WELL, EMPTY))

    def test_either_twice(self):
        self.assertEqual(either(SQUARE, either(SQUARE, WELL)), EMPTY)

    def test_less_twice(self):
        self.assertEqual((less(SQUARE, less(SQUARE, WELL)), common(SQUARE, WELL)), (EMPTY, WELL))

    def test_common_and_less(self):
        self.assertEqual((less(common(WELL, SQUARE), WELL), common(WELL, less(SQUARE, WELL))), (EMPTY, WELL))

    def test_equal_nines(self):
        table = Table({"spot": "shape"}).put({"spot": SQUARE}).put({"spot": ROAD}).put({"spot": FRAME})
        one, other = dots((1, 3, 2)), dots((1, 5, 2))
        for number in table:
            shape = table.row(number)["spot"]
            self.assertEqual((nine(one, shape), nine(shape, one)), (nine(other, shape), nine(shape, other)))
        self.assertFalse(one == other)

    def test_touches_and_overlaps(self):
        one, other = area((4, 0), (6, 0), (6, 3), (4, 3)), area((4, 1), (6, 1), (6, 4), (4, 4))
        self.assertTrue(is_related(one, SQUARE, "touches") and is_related(SQUARE, other, "touches"))
        self.assertTrue(is_related(one, other, "overlaps"))

    def test_meeting_in_pairs(self):
        sides = [line((0, 0), (4, 0)), line((4, 0), (0, 4)), line((0, 4), (0, 0))]
        self.assertTrue(all(is_related(one, other, "meets") for one in sides for other in sides))
        self.assertEqual(common(*sides), EMPTY)

    def test_areas_that_add_up(self):
        layer = {"a": area((0, 0), (2, 0), (2, 4), (0, 4)), "b": area((4, 0), (6, 0), (6, 4), (4, 4))}
        self.assertFalse(is_related(layer["a"], layer["b"], "overlaps"))
        self.assertEqual(area_of(covered(layer)), area_of(SQUARE))
        self.assertFalse(covers(SQUARE, *layer.values()))
        self.assertEqual(fault(layer, SQUARE)[0], "gap")

    def test_opposite_questions(self):
        table = Table(KINDS_OF).put({"worth": 5}).put({"worth": 1}).put({})
        condition = ("less", WORTH, ("value", 3))
        self.assertEqual((answer(table, condition), answer(table, ("not", condition)), truths(table, condition)[3]),
            ((2,), (1,), None))

    def test_changes_that_keep_rules_one_by_one(self):
        book = Book({"lots": Table({"plot": "shape"})}, apart_rule("clear", "lots", "plot"))
        for shapes in ((SQUARE,), (FRAME,)):
            transaction = book.begin()
            for shape in shapes:
                transaction.put("lots", {"plot": shape})
            transaction.drop()
        transaction = book.begin()
        transaction.put("lots", {"plot": SQUARE})
        self.assertIsInstance(raised(transaction.put, "lots", {"plot": FRAME}), Broken)

    def test_states_that_single_changes_do_not_reach(self):
        known = ("or", ("same", ("column", "name"), ("value", "a")), ("same", ("column", "name"), ("value", "b")))
        there = ("not", ("missing", ("column", "name")))
        table = Table({"name": "text"}).put({"name": "a"}).put({"name": "b"})

        def rules(at_end):
            return (single_rule("one", "lots", "name", at_end=at_end),
                check_rule("known", "lots", known, at_end=at_end),
                check_rule("there", "lots", there, at_end=at_end))
        # no row but these two can be there, and neither can be changed; one that is taken out does not come back
        transaction = Book({"lots": table}, *rules(False)).begin()
        for name in ("a", "b", "c", "", None):
            self.assertIsInstance(raised(transaction.put, "lots", {"name": name}), Broken)
            for number in (1, 2):
                if table.row(number)["name"] != name:
                    self.assertIsInstance(raised(transaction.change, "lots", number, {"name": name}), Broken)
        transaction.take_out("lots", 1)
        self.assertEqual(transaction.put("lots", {"name": "a"}), 3)
        # but both together lead to another state that keeps the rules
        book = Book({"lots": table}, *rules(True))
        with book.begin() as transaction:
            transaction.change("lots", 1, {"name": "b"})
            transaction.change("lots", 2, {"name": "a"})
            self.assertEqual(transaction.end(), 1)
        self.assertEqual(book.table("lots").rows, {1: {"name": "b"}, 2: {"name": "a"}})

    def test_middle_of_an_area(self):
        self.assertEqual(len(FRAME.areas), 1)
        self.assertFalse(middle(FRAME) in FRAME)

    def test_nearest_under_a_map(self):
        table = Table({"spot": "shape"}).put({"spot": dots((3, 0))}).put({"spot": dots((0, 2))})
        image = Table({"spot": "shape"})
        for number in table:
            image = image.put({"spot": Map(1, 0, 0, 4, 0, 0)(table.row(number)["spot"])})
        self.assertEqual(image.row(2)["spot"], led_shape((1, 0, 0, 4, 0, 0, 1), dots((0, 2))))
        self.assertEqual([nearest(rows, "spot", dots((0, 0)), 1)[0][0] for rows in (table, image)], [2, 1])


class ObjectsTest(unittest.TestCase):
    def test_iteration_and_equality(self):
        table = drawn_table(random.Random(232), 3)
        book = Book({"lots": table})
        objects = [SQUARE, Drawing(SQUARE), same(), Tree(), table, single_rule("a", "lots", "name"), book, book.begin(),
            divides_rule("a", "lots", "spot", SQUARE)]
        for one in objects:
            is_listed = isinstance(one, (Tree, Table, Book))
            error = raised(list, one)
            self.assertEqual(error is None, is_listed)
            self.assertTrue(error is None or isinstance(error, TypeError))
            for value in (*objects, None, True, 1, "", "lots", (), [], {}, ("lots",), SPOT):
                self.assertIs(one == value, one is value)
                self.assertIs(one != value, one is not value)
                if hasattr(one, "__contains__"):
                    self.assertIn(value in one, (True, False))


if __name__ == "__main__":
    unittest.main()
