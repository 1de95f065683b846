"""Books and transactions: points 0.20, 0.23 and 16.1 to 16.5."""

import random
import unittest

from tests.helpers import EMPTY, FRAME, HUGE, NO_INTEGERS, ROAD, SQUARE, WELL, raised
from tests.plain_books import PlainBook, PlainTable
from tests.test_rules import NO_NAMES, NO_RULES
from wherebase.book.books import MAX_RULES, MAX_TABLES, MAX_VERSIONS, Book, Transaction
from wherebase.errors import (
    Broken, Conflict, InvalidName, InvalidNumber, InvalidOperation, InvalidRow, InvalidRule, InvalidTable,
    NothingToUndo,
    TakenName, TooMany, UnknownName,
)
from wherebase.rule.rules import (
    apart_rule, breach, check_rule, divides_rule, is_breach, is_true, single_rule, within_rule,
)
from wherebase.shape.shapes import area, dots, line
from wherebase.table.tables import Table

LEFT, RIGHT = area((0, 0), (2, 0), (2, 4), (0, 4)), area((2, 0), (4, 0), (4, 4), (2, 4))
SMALL = area((1, 1), (3, 1), (3, 3), (1, 3))
CHEAP = ("less", ("column", "price"), ("value", 6))
CLEAR, HELD = apart_rule("clear", "lots", "plot"), within_rule("held", "lots", "plot", "zones", "zone", at_end=True)
LOW, ONE = check_rule("low", "lots", CHEAP), single_rule("one", "notes", "word")
HALVES = Table({"plot": "shape", "price": "number"}).put({"plot": LEFT, "price": 5}).put({"plot": RIGHT})
ZONES, NOTES = Table({"zone": "shape"}).put({"zone": SQUARE}), Table({"word": "text"})
TABLES = {"zones": ZONES, "lots": HALVES, "notes": NOTES}
METHODS = (("table", (None,)), ("put", (None, None)), ("change", (None, None, None)), ("take_out", (None, None)),
    ("mark", (None,)),
    ("back", (None,)), ("end", ()), ("drop", ()))


def made(*rules):
    return Book(TABLES, *rules)


def changed(book, *calls):
    """Makes some calls in a transaction and ends it."""
    transaction = book.begin()
    for name, *more in calls:
        getattr(transaction, name)(*more)
    return transaction.end()


class BookTest(unittest.TestCase):
    def test_new_book(self):
        self.assertEqual((MAX_TABLES, MAX_RULES, MAX_VERSIONS), (8, 16, 100))
        book = made(CLEAR, HELD, LOW)
        self.assertEqual((book.names, book.newest, len(book), list(book)),
            (("lots", "notes", "zones"), 0, 1, ["lots", "notes", "zones"]))
        self.assertEqual(book.rules, (CLEAR, HELD, LOW))
        self.assertEqual([value in book for value in ("lots", "zones", "Lots", "no", "", 1, None, ("lots",), ["lots"],
            {}, SQUARE, book)],
            [True, True] + [False] * 10)
        self.assertEqual(str(book), "book of 3 tables, 3 rules, 1 version")
        self.assertEqual(str(Book({"a": NOTES}, single_rule("b", "a", "word"))), "book of 1 table, 1 rule, 1 version")
        self.assertEqual(str(Book({"a": NOTES, "b": NOTES})), "book of 2 tables, 0 rules, 1 version")
        self.assertEqual([book.table(name) == TABLES[name] for name in book], [True] * 3)

    def test_no_shared_state(self):
        tables = dict(TABLES)
        book = Book(tables, CLEAR)
        tables["lots"] = NOTES
        del tables["zones"]
        book.table("lots").rows.clear()
        self.assertEqual([book.table(name) == TABLES[name] for name in book], [True] * 3)
        changed(book, ("take_out", "lots", 1))
        told = book.changes(1)
        told["lots"][1][0]["price"] = 99
        told["lots"].clear()
        self.assertEqual(book.changes(1), {"lots": {1: ({"plot": LEFT, "price": 5}, None)}})
        values = {"word": "a"}
        transaction = book.begin()
        transaction.put("notes", values)
        values["word"] = "b"
        self.assertEqual(transaction.table("notes").row(1), {"word": "a"})

    def test_wrong_tables(self):
        for tables in (None, True, 5, "lots", (), [], {}, [("lots", HALVES)], HALVES, {"lots": None}, {"Lots": HALVES},
            {1: HALVES},
                {"lots": HALVES, "zones": 5}, {"a" * 21: HALVES}, {letter: NOTES for letter in "abcdefghi"}):
            self.assertIsInstance(raised(Book, tables, None, CLEAR, CLEAR), InvalidTable)
        self.assertEqual(len(Book({letter: NOTES for letter in "abcdefgh"}).names), 8)

    def test_wrong_rules(self):
        other, broken = single_rule("other", "lots", "no"), check_rule("never", "lots", ("or",))
        for rule in NO_RULES:
            self.assertIsInstance(raised(Book, TABLES, broken, CLEAR, CLEAR, other, rule), InvalidRule)
        error = raised(Book, TABLES, broken, other, LOW, CLEAR, LOW, CLEAR)
        self.assertIsInstance(error, TakenName)
        self.assertEqual(error.name, "low")
        many = [single_rule("a" * (k + 1), "notes", "word") for k in range(17)]
        self.assertIsInstance(raised(Book, TABLES, broken, other, *many), InvalidOperation)
        error = raised(Book, TABLES, broken, *many[:16])
        self.assertIsInstance(error, TooMany)
        self.assertEqual(error.limit, 16)
        self.assertEqual(len(Book(TABLES, *many[:16]).rules), 16)
        error = raised(Book, TABLES, CLEAR, broken, *many[:14])
        self.assertEqual((error.rule_label, error.row_numbers, error.point), ("never", (1,), None))

    def test_broken_or_too_many(self):
        wide = Table({"plot": "shape"})
        for turn in range(4):
            wide = wide.put({"plot": dots(*[(k, turn) for k in range(50)])})
        tables = {"wide": wide.put({"plot": dots((3, 3))}), "lots": HALVES}
        great, doubled = divides_rule("great", "wide", "plot", WELL), apart_rule("doubled", "wide", "plot")
        error = raised(Book, tables, CLEAR, great, doubled)
        self.assertIsInstance(error, TooMany)
        self.assertEqual(error.limit, 200)
        error = raised(Book, tables, CLEAR, doubled, great)
        self.assertEqual((error.rule_label, error.row_numbers, error.point), ("doubled", (4, 5), (3, 3, 1)))

    def test_table(self):
        book = made()
        changed(book, ("put", "notes", {"word": "a"}))
        changed(book, ("put", "notes", {"word": "b"}), ("take_out", "lots", 2))
        self.assertEqual([book.table("notes", version=version).numbers for version in (0, 1, 2, None)],
            [(), (1,), (1, 2), (1, 2)])
        self.assertEqual([book.table("lots", version=version).numbers for version in (0, 1, 2)], [(1, 2), (1, 2), (1,)])
        for name in NO_NAMES:
            self.assertIsInstance(raised(book.table, name, version=99), InvalidName)
        self.assertEqual(raised(book.table, "no", version=99).name, "no")
        for version in (*NO_INTEGERS, -1, 3, HUGE):
            if version is not None:
                error = raised(book.table, "lots", version=version)
                self.assertIsInstance(error, InvalidNumber)
                self.assertIs(error.value, version)

    def test_changes(self):
        book = made()
        changed(book, ("put", "notes", {"word": "a"}), ("change", "lots", 2, {"price": 1}), ("take_out", "lots", 1),
            ("put", "lots", {}))
        changed(book, ("put", "zones", {}), ("take_out", "zones", 2))
        changed(book, ("change", "lots", 2, {"price": 2}), ("change", "zones", 1, {}))
        self.assertEqual(book.changes(1), {
            "lots": {1: ({"plot": LEFT, "price": 5}, None), 2: ({"plot": RIGHT, "price": None},
                {"plot": RIGHT, "price": 1}),
                3: (None, {"plot": None, "price": None})},
            "notes": {1: (None, {"word": "a"})},
        })
        self.assertEqual((list(book.changes(1)), list(book.changes(1)["lots"])), (["lots", "notes"], [1, 2, 3]))
        # the next number alone is another one
        self.assertEqual(book.changes(2), {"zones": {}})
        self.assertEqual(book.changes(3), {"lots": {2: ({"plot": RIGHT, "price": 1}, {"plot": RIGHT, "price": 2})}})
        for version in (*NO_INTEGERS, 0, -1, 4, HUGE):
            error = raised(book.changes, version)
            self.assertIsInstance(error, InvalidNumber)
            self.assertIs(error.value, version)

    def test_rules(self):
        book = made(CLEAR)
        never, other = check_rule("never", "lots", ("or",)), single_rule("other", "lots", "no")
        self.assertIsNone(book.add_rule(LOW))
        for rule in NO_RULES:
            self.assertIsInstance(raised(book.add_rule, rule), InvalidRule)
        error = raised(book.add_rule, single_rule("low", "lots", "no"))
        self.assertIsInstance(error, TakenName)
        self.assertEqual(error.name, "low")
        self.assertIsInstance(raised(book.add_rule, other), InvalidOperation)
        error = raised(book.add_rule, never)
        self.assertEqual((error.rule_label, error.row_numbers, error.point), ("never", (1,), None))
        self.assertEqual((book.rules, len(book)), ((CLEAR, LOW), 1))
        for k in range(14):
            book.add_rule(single_rule("x" * (k + 1), "notes", "word"))
        self.assertIsInstance(raised(book.add_rule, other), InvalidOperation)
        self.assertEqual(raised(book.add_rule, never).limit, 16)
        self.assertIsNone(book.remove_rule("clear"))
        self.assertEqual([rule.label for rule in book.rules][:2], ["low", "x"])
        book.add_rule(CLEAR)
        self.assertEqual(book.rules[-1], CLEAR)
        for label in NO_NAMES:
            self.assertIsInstance(raised(book.remove_rule, label), InvalidName)
        error = raised(book.remove_rule, "lots")
        self.assertIsInstance(error, UnknownName)
        self.assertEqual((error.name, len(book.rules), len(book)), ("lots", 16, 1))
        # of the newest version
        changed(book, ("put", "lots", {"price": 3}))
        self.assertIsInstance(raised(changed, book, ("put", "lots", {"price": 9})), Broken)


class UndoTest(unittest.TestCase):
    def test_undo(self):
        book = made()
        for word in "abc":
            changed(book, ("put", "notes", {"word": word}))
        numbers = lambda: (book.table("notes").numbers, book.table("notes").next_number)
        self.assertEqual((book.undo(), numbers()), (4, ((1, 2), 4)))
        self.assertEqual((book.undo(2), numbers()), (5, ((), 4)))
        self.assertEqual(raised(book.undo).many, 1)
        self.assertEqual((book.redo(), numbers()), (6, ((1,), 4)))
        self.assertEqual((book.redo(2), numbers()), (7, ((1, 2, 3), 4)))
        self.assertEqual(book.table("notes").row(3), {"word": "c"})
        self.assertEqual(raised(book.redo).many, 1)
        self.assertEqual((book.undo(many=3), book.redo(many=1)), (8, 9))
        # what is no change lets nothing be forgotten
        changed(book, ("table", "notes"))
        raised(changed, book, ("put", "no", {}))
        self.assertEqual((book.redo(), numbers()), (10, ((1, 2), 4)))
        changed(book, ("put", "notes", {"word": "d"}))
        self.assertEqual(numbers(), ((1, 2, 4), 5))
        error = raised(book.redo)
        self.assertIsInstance(error, NothingToUndo)
        self.assertEqual((book.undo(), numbers(), book.undo(2), numbers(), book.redo(3), numbers()),
            (12, ((1, 2), 5), 13, ((), 5), 14, ((1, 2, 4), 5)))
        self.assertEqual(raised(book.undo, 4).many, 4)
        self.assertEqual([book.table("notes", version=version).numbers for version in (3, 5, 9, 11)],
            [(1, 2, 3), (), (1,), (1, 2, 4)])
        self.assertEqual(book.changes(13), {"notes": {1: ({"word": "a"}, None), 2: ({"word": "b"}, None)}})

    def test_next_numbers_alone(self):
        book = made()
        changed(book, ("put", "notes", {}), ("take_out", "notes", 1))
        self.assertEqual((book.undo(), book.changes(2), book.table("notes") == book.table("notes", version=1)),
            (2, {}, True))
        self.assertEqual((book.redo(), book.changes(3)), (3, {}))

    def test_rules(self):
        book = made(CLEAR)
        changed(book, ("change", "lots", 1, {"price": 1}))
        book.add_rule(check_rule("lower", "lots", ("less", ("column", "price"), ("value", 5))))
        book.add_rule(check_rule("never", "notes", ("or",)))
        error = raised(book.undo)
        self.assertEqual((error.rule_label, error.row_numbers, error.point, len(book)), ("lower", (1,), None, 2))
        self.assertIsInstance(raised(book.undo, 2), NothingToUndo)
        book.remove_rule("lower")
        self.assertEqual(book.undo(), 2)
        book.add_rule(check_rule("higher", "lots", ("not", ("less", ("column", "price"), ("value", 5)))))
        self.assertEqual(raised(book.redo).rule_label, "higher")
        self.assertEqual((book.newest, book.table("lots").row(1)["price"]), (2, 5))

    def test_wrong_numbers(self):
        book = made()
        for call in (book.undo, book.redo):
            for many in (*NO_INTEGERS, 0, -1, -HUGE):
                error = raised(call, many)
                self.assertIsInstance(error, InvalidNumber)
                self.assertIs(error.value, many)
            for many in (1, 2, HUGE):
                error = raised(call, many)
                self.assertIsInstance(error, NothingToUndo)
                self.assertEqual(error.many, many)


class TransactionTest(unittest.TestCase):
    def test_transaction(self):
        book = made(CLEAR)
        one, two = book.begin(), book.begin()
        self.assertIsInstance(one, Transaction)
        self.assertEqual((one.is_open, one.began, one.used, one.marks), (True, 0, (), ()))
        self.assertEqual(one.put("notes", {"word": "a"}), 1)
        self.assertIsNone(one.change("notes", 1, {"word": "b"}))
        self.assertEqual((one.table("notes").row(1), two.table("notes").numbers, book.table("notes").numbers),
            ({"word": "b"}, (), ()))
        self.assertEqual((one.used, two.used), (("notes",), ("notes",)))
        self.assertIsNone(one.take_out("notes", 1, 1))
        self.assertEqual((one.put("notes", {"word": "c"}), one.end()), (2, 1))
        self.assertEqual((one.is_open, one.used, one.began, book.newest), (False, ("notes",), 0, 1))
        error = raised(two.end)
        self.assertIsInstance(error, Conflict)
        self.assertEqual((error.name, two.is_open), ("notes", True))
        self.assertIsNone(two.drop())
        self.assertEqual((two.is_open, len(book), book.table("notes").numbers), (False, 2, (2,)))
        # a transaction without a change makes no version
        three = book.begin()
        self.assertEqual((three.began, three.table("lots") == HALVES, three.end(), len(book)), (1, True, 1, 2))
        four = book.begin()
        four.change("lots", 1, {"price": 5})
        self.assertEqual((four.end(), len(book), four.used), (1, 2, ("lots",)))
        with self.assertRaises(TypeError):
            list(one)

    def test_used_tables(self):
        book = made(apart_rule("a", "lots", "plot"), within_rule("b", "lots", "plot", "zones", "zone"), HELD)
        for calls, used in (
            ((("put", "lots", {}),), ("lots", "zones")), ((("change", "zones", 1, {}),), ("lots", "zones")),
            ((("take_out", "zones"),), ("lots", "zones")), ((("table", "lots"),), ("lots",)),
            ((("put", "notes", {}),), ("notes",)),
            ((("table", "notes"), ("table", "zones")), ("notes", "zones")), ((("mark", "a"), ("back", "a")), ()),
            ((("mark", "a"), ("put", "notes", {}), ("back", "a")), ("notes",)),
        ):
            transaction = book.begin()
            for name, *more in calls:
                getattr(transaction, name)(*more)
            self.assertEqual(transaction.used, used)
        # calls that raise an error use nothing
        transaction = book.begin()
        for name, *more in (("put", "lots", {"plot": LEFT}), ("put", "lots", {"no": 1}), ("take_out", "zones", 1),
            ("take_out", "zones", 9),
                ("change", "lots", 1, {"plot": SQUARE}), ("table", "no"), ("back", "a"), ("put", "lots", None)):
            self.assertIsNotNone(raised(getattr(transaction, name), *more))
            self.assertEqual((transaction.used, transaction.is_open), ((), True))
        # rules at the end are not asked by calls
        other = made(HELD).begin()
        other.take_out("zones", 1)
        self.assertEqual(other.used, ("zones",))

    def test_early_rules(self):
        book = made(LOW, CLEAR, HELD)
        transaction = book.begin()
        error = raised(transaction.put, "lots", {"plot": SMALL, "price": 9})
        self.assertEqual((error.rule_label, error.row_numbers, error.point), ("low", (3,), None))
        error = raised(transaction.put, "lots", {"plot": SMALL, "price": 1})
        self.assertEqual((error.rule_label, error.row_numbers), ("clear", (1, 3)))
        lots = {"lots": HALVES.put({"plot": SMALL, "price": 1})}
        self.assertIs(is_breach(CLEAR, lots, (error.row_numbers, error.point)), True)
        self.assertEqual(error.point, breach(CLEAR, lots)[1])
        error = raised(transaction.change, "lots", 2, {"plot": SMALL})
        self.assertEqual((error.rule_label, error.row_numbers), ("clear", (1, 2)))
        # by rules of its beginning, of its own tables
        book.remove_rule("clear")
        book.add_rule(check_rule("never", "notes", ("or",)))
        self.assertIsInstance(raised(transaction.put, "lots", {"plot": SMALL}), Broken)
        self.assertEqual(transaction.put("notes", {}), 1)
        self.assertEqual(raised(transaction.end).rule_label, "never")
        transaction.take_out("notes", 1)
        transaction.take_out("lots", 1)
        self.assertEqual(transaction.change("lots", 2, {"plot": SQUARE}), None)
        self.assertEqual(transaction.end(), 1)

    def test_rules_at_the_end(self):
        book = made(CLEAR, HELD)
        transaction = book.begin()
        transaction.take_out("zones", 1)
        error = raised(transaction.end)
        self.assertEqual((error.rule_label, error.row_numbers), ("held", (1,)))
        self.assertIs(is_breach(HELD, {"lots": HALVES, "zones": ZONES.without(1)}, ((1,), error.point)), True)
        self.assertEqual((transaction.is_open, len(book)), (True, 1))
        transaction.put("zones", {"zone": SMALL})
        transaction.take_out("lots", 1, 2)
        self.assertEqual((transaction.end(), len(book)), (1, 2))
        # rules of the book at the end, of the newest version with its own tables
        one, two = book.begin(), book.begin()
        one.put("notes", {"word": "a"})
        two.put("lots", {"plot": SMALL})
        book.add_rule(check_rule("never", "notes", ("or",)))
        self.assertEqual((two.end(), raised(one.end).rule_label), (2, "never"))
        one = book.begin()
        one.put("lots", {"plot": dots((9, 1))})
        self.assertEqual(raised(one.end).rule_label, "held")
        one, two = book.begin(), book.begin()
        one.take_out("lots", 3)
        one.take_out("zones", 2)
        two.take_out("lots")
        self.assertEqual((one.end(), raised(two.end).name), (3, "lots"))

    def test_two_changes_that_keep_rules_one_by_one(self):
        book = made(HELD)
        changed(book, ("take_out", "lots", 1), ("put", "zones", {"zone": RIGHT}))
        one, two = book.begin(), book.begin()
        one.take_out("zones", 1)
        two.put("lots", {"plot": LEFT})
        self.assertEqual((one.used, two.used), (("zones",), ("lots",)))
        self.assertEqual(one.end(), 2)
        self.assertEqual((raised(two.end).rule_label, two.is_open, book.newest), ("held", True, 2))

    def test_conflicts(self):
        book = made()
        one, two, three = book.begin(), book.begin(), book.begin()
        for transaction in (one, two, three):
            for name in ("zones", "lots"):
                transaction.table(name)
        three.put("notes", {})
        one.change("zones", 1, {"zone": FRAME})
        one.end()
        self.assertEqual(raised(two.end).name, "zones")
        changed(book, ("take_out", "lots", 1))
        self.assertEqual(raised(two.end).name, "lots")
        # brought back is changed, too
        book.undo(2)
        self.assertEqual((raised(two.end).name, raised(three.end).name), ("lots", "lots"))
        four = book.begin()
        four.put("notes", {})
        changed(book, ("take_out", "lots", 1))
        self.assertEqual(four.end(), 5)
        five = book.begin()
        five.table("notes")
        book.undo()
        self.assertEqual(raised(five.end).name, "notes")
        six = book.begin()
        self.assertEqual((book.undo(), six.end()), (7, 7))

    def test_marks(self):
        book = made(CLEAR)
        transaction = book.begin()
        self.assertIsNone(transaction.mark("a"))
        transaction.put("notes", {"word": "a"})
        transaction.mark("b")
        transaction.take_out("notes", 1)
        transaction.take_out("lots", 1)
        transaction.mark("c")
        self.assertEqual(transaction.marks, ("a", "b", "c"))
        self.assertIsNone(transaction.back("b"))
        self.assertEqual((transaction.marks, transaction.table("notes").numbers, transaction.table("lots").numbers),
            (("a", "b"), (1,), (1, 2)))
        transaction.put("notes", {})
        transaction.back("b")
        self.assertEqual((transaction.marks, transaction.table("notes").numbers,
            transaction.table("notes").next_number), (("a", "b"), (1,), 2))
        transaction.mark("c")
        for label in NO_NAMES:
            self.assertIsInstance(raised(transaction.mark, label), InvalidName)
            self.assertIsInstance(raised(transaction.back, label), InvalidName)
        error = raised(transaction.mark, "b")
        self.assertIsInstance(error, TakenName)
        self.assertEqual(error.name, "b")
        error = raised(transaction.back, "lots")
        self.assertIsInstance(error, UnknownName)
        self.assertEqual((error.name, transaction.marks), ("lots", ("a", "b", "c")))
        transaction.back("a")
        self.assertEqual((transaction.marks, transaction.used, transaction.end(), len(book)),
            (("a",), ("lots", "notes"), 0, 1))
        self.assertEqual(transaction.marks, ("a",))

    def test_wrong_arguments(self):
        transaction = made(CLEAR).begin()
        for name in NO_NAMES:
            for method, more in (("table", ()), ("put", (None,)), ("change", (None, None)), ("take_out", (None,))):
                self.assertIsInstance(raised(getattr(transaction, method), name, *more), InvalidName)
        for method, more in (("table", ()), ("put", (None,)), ("change", (None, None)), ("take_out", (None,))):
            error = raised(getattr(transaction, method), "no", *more)
            self.assertIsInstance(error, UnknownName)
            self.assertEqual(error.name, "no")
        for values in (None, [], {"no": 1}, {"price": "a"}, {"plot": ROAD.form}, {"price": True}):
            self.assertIsInstance(raised(transaction.put, "lots", values), InvalidRow)
            self.assertIsInstance(raised(transaction.change, "lots", 1, values), InvalidRow)
        for number in (*NO_INTEGERS, 0, 3, -1, HUGE):
            for call in (lambda: transaction.change("lots", number, None),
                lambda: transaction.take_out("lots", 1, number, 99)):
                error = raised(call)
                self.assertIsInstance(error, InvalidNumber)
                self.assertIs(error.value, number)
        self.assertEqual((transaction.used, transaction.is_open), ((), True))

    def test_sixty_rows(self):
        book = made(LOW)
        transaction = book.begin()
        self.assertEqual([transaction.put("lots", {}) for _ in range(58)], list(range(3, 61)))
        error = raised(transaction.put, "lots", {"price": 9})
        self.assertIsInstance(error, TooMany)
        self.assertEqual((error.limit, transaction.end(), len(book.table("lots"))), (60, 1, 60))

    def test_too_many_in_a_rule(self):
        whole = within_rule("own", "wide", "plot", "wide", "plot")
        line_of = lambda many: dots(*[(k, 0) for k in range(many)])
        book = Book({"wide": Table({"plot": "shape"}).put({"plot": line_of(50)}).put({"plot": line_of(50)})}, whole)
        transaction = book.begin()
        transaction.put("wide", {"plot": line_of(50)})
        error = raised(transaction.put, "wide", {"plot": line_of(50)})
        self.assertIsInstance(error, TooMany)
        self.assertEqual((error.limit, transaction.end()), (200, 1))
        book.remove_rule("own")
        changed(book, ("put", "wide", {"plot": line_of(50)}))
        self.assertEqual(raised(book.add_rule, whole).limit, 200)
        self.assertEqual(book.undo(), 3)
        book.add_rule(whole)
        self.assertEqual((raised(book.redo).limit, len(book)), (200, 4))

    def test_closed(self):
        for how in ("end", "drop"):
            transaction = made().begin()
            transaction.mark("a")
            getattr(transaction, how)()
            for method, told in METHODS:
                self.assertIsInstance(raised(getattr(transaction, method), *told), InvalidOperation)
            with self.assertRaises(InvalidOperation):
                with transaction:
                    self.fail()
            self.assertEqual((transaction.is_open, transaction.marks, transaction.began), (False, ("a",), 0))

    def test_with(self):
        book = made(CLEAR)
        with book.begin() as transaction:
            self.assertIsInstance(transaction, Transaction)
            transaction.put("notes", {})
            self.assertEqual(transaction.is_open, True)
        self.assertEqual((transaction.is_open, len(book), transaction.used), (False, 1, ("notes",)))
        with book.begin() as transaction:
            transaction.put("notes", {})
            self.assertEqual(transaction.end(), 1)
        self.assertEqual((transaction.is_open, len(book)), (False, 2))
        with book.begin() as transaction:
            transaction.drop()
        with self.assertRaises(Broken):
            with book.begin() as transaction:
                transaction.put("notes", {})
                transaction.put("lots", {"plot": SQUARE})
        self.assertEqual((transaction.is_open, len(book)), (False, 2))
        kept = book.begin()
        with kept as transaction:
            self.assertIs(kept, transaction)

    def test_a_hundred_versions(self):
        book = made(LOW)
        for _ in range(99):
            changed(book, ("put", "zones", {}), ("take_out", "zones", book.table("zones").next_number))
        self.assertEqual((len(book), str(book)), (100, "book of 3 tables, 1 rule, 100 versions"))
        transaction = book.begin()
        transaction.put("notes", {})
        error = raised(transaction.end)
        self.assertIsInstance(error, TooMany)
        self.assertEqual((error.limit, transaction.is_open, len(book)), (100, True, 100))
        self.assertEqual(raised(book.undo).limit, 100)
        self.assertIsInstance(raised(book.undo, 100), NothingToUndo)
        transaction.take_out("notes", 1)
        self.assertIsInstance(raised(transaction.end), TooMany)
        self.assertEqual(changed(book, ("table", "notes")), 99)
        book.add_rule(check_rule("never", "notes", ("or",)))
        transaction.put("notes", {})
        self.assertEqual(raised(transaction.end).rule_label, "never")


class HistoryTest(unittest.TestCase):
    KINDS = {"lots": {"plot": "shape", "price": "number"}, "zones": {"zone": "shape"}, "notes": {"word": "text"}}
    SHAPES = (LEFT, RIGHT, SQUARE, SMALL, WELL, ROAD, EMPTY, None, FRAME, area((4, 0), (6, 0), (6, 4), (4, 4)),
        line((0, 0), (0, 4)))

    def drawn_values(self, rows, name):
        if rows.random() < 0.05:
            return rows.choice([None, {"no": 1}, {"price": "a"}, {"word": 5}])
        values = {"plot": rows.choice(self.SHAPES), "price": rows.choice([1, 5, 6, None]),
            "zone": rows.choice(self.SHAPES),
            "word": rows.choice(["a", "b", "c", None, ""])}
        return {column: values[column] for column in self.KINDS.get(name, {}) if rows.random() < 0.8}

    def drawn_call(self, rows, tables):
        """The name of a method of a transaction, and arguments."""
        name = rows.choice(["lots", "lots", "zones", "notes"]) if rows.random() < 0.97 else rows.choice(["no", "No",
            None])
        there = sorted(tables[name].rows) if name in tables else []
        if not there or rows.random() < 0.1:
            there = [1, 2, 99, 0]
        number = rows.choice(there)
        label = rows.choice(["a", "b", "c", "A"])
        return rows.choice([("put", name, self.drawn_values(rows, name))] * 4 + [("change", name, number,
            self.drawn_values(rows, name))] * 2 + [
            ("take_out", name, *[rows.choice(there) for _ in range(rows.randint(0, 2))]), ("take_out", name, number),
            ("table", name),
            ("mark", label), ("back", label)])

    def both(self, one, other, *args, **more):
        """Makes one call of both, checks that the same comes of it, and returns it with whether it was an error."""
        try:
            found = one(*args, **more)
        except Exception as error:
            expected = raised(other, *args, **more)
            self.assertEqual((error.__class__, vars(error)), (expected.__class__, expected and vars(expected)))
            return error, True
        told = other(*args, **more)
        self.assertEqual(found, told)
        return found, False

    def check_state(self, book, plain, opened, rules):
        self.assertEqual((book.newest, len(book), book.rules),
            (len(plain.versions) - 1, len(plain.versions), tuple(plain.rules)))
        for one, other, _ in opened:
            self.assertEqual((one.is_open, one.began, one.used, one.marks),
                (other.is_open, other.began, other.used, other.marks))
        tables = {name: book.table(name) for name in book}
        self.assertEqual(tables, {name: table.told() for name, table in plain.versions[-1].items()})
        for rule in rules:
            self.assertIs(is_true(rule, tables), True)

    def run_history(self, rows, steps, with_rules):
        """A drawn history of a book and of a plain one; tells what was ended, undone and done again, in order."""
        rules = rows.choice([(CLEAR, HELD, ONE), (LOW, CLEAR),
            (ONE, within_rule("soon", "lots", "plot", "zones", "zone")), ()])
        empty = {name: Table(kinds) for name, kinds in self.KINDS.items()}
        book, plain = Book(empty, *rules), PlainBook({name: PlainTable(kinds) for name, kinds in self.KINDS.items()},
            *rules)
        opened, told, handed = [], [], []
        for _ in range(steps):
            step = rows.choice(["call"] * 12 + ["begin"] * 2 + ["end", "end", "drop", "undo", "redo", "rule", "look"])
            still = [part for part in opened[-6:] if part[0].is_open]
            if step == "begin" or not still:
                opened.append((book.begin(), plain.begin(), []))
            elif step in ("undo", "redo"):
                many = rows.choice([1, 1, 2, 3, 0])
                _, is_error = self.both(getattr(book, step), getattr(plain, step), many)
                if not is_error:
                    told.append((step, many))
            elif step == "rule" and with_rules:
                rule = rows.choice([CLEAR, HELD, ONE, LOW, within_rule("soon", "lots", "plot", "zones", "zone"),
                    divides_rule("all", "lots", "plot", SQUARE, at_end=True), single_rule("bad", "lots", "no")])
                if rows.random() < 0.5:
                    self.both(book.add_rule, plain.add_rule, rule)
                else:
                    self.both(book.remove_rule, plain.remove_rule, rule.label)
            elif step == "look":
                self.both(book.changes, plain.changes, rows.randint(0, len(book)))
                self.both(book.table, plain.table, rows.choice(["lots", "notes", "no"]),
                    version=rows.randint(0, len(book)))
            else:
                one, other, calls = rows.choice(still if rows.random() < 0.95 else opened)
                call = self.drawn_call(rows, other.tables) if step == "call" else (step,)
                if step not in ("end", "drop", "call"):
                    continue
                name, *args = call
                found, is_error = self.both(getattr(one, name), getattr(other, name), *args)
                if not is_error:
                    calls.append((name, args, found))
                if name == "end" and not is_error:
                    told.append(("end", calls))
            self.check_state(book, plain, opened, book.rules)
            handed.append((book.newest, {name: book.table(name) for name in book},
                {name: str(book.table(name).rows) for name in book}))
        # elder versions, and all that was handed out, stay as they were
        for version, tables, rows_told in handed:
            self.assertEqual({name: book.table(name, version=version) for name in book}, tables)
            self.assertEqual({name: book.table(name, version=version).rows for name in book},
                {name: table.rows for name, table in tables.items()})
            self.assertEqual(list(rows_told), list(tables))
        return book, told, rules, empty

    def test_histories(self):
        rows = random.Random(160)
        ended = 0
        for _ in range(25):
            _, told, _, _ = self.run_history(rows, 120, True)
            ended += len(told)
        self.assertGreater(ended, 100)

    def test_order_of_ends(self):
        rows = random.Random(161)
        for _ in range(25):
            book, told, rules, empty = self.run_history(rows, 120, False)
            again = Book(empty, *rules)
            for step, more in told:
                if step != "end":
                    getattr(again, step)(more)
                    continue
                transaction = again.begin()
                for name, args, found in more:
                    told_again = getattr(transaction, name)(*args)
                    if name != "end":
                        self.assertEqual(told_again, found)
            self.assertEqual(len(again), len(book))
            for version in range(len(book)):
                for name in book:
                    self.assertEqual(again.table(name, version=version), book.table(name, version=version))


if __name__ == "__main__":
    unittest.main()
