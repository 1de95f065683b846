"""Strings that tell shapes and tables: points 17.1 to 17.3."""

import random
import re
import unittest
from math import gcd

from tests.drawn_tables import KINDS_OF, drawn_shape, drawn_table
from tests.helpers import EMPTY, FRAME, HUGE, MAPS, NO_SHAPES, POSTS, RAILS, ROAD, SQUARE, WELL, led_shape, raised, random_told
from tests.test_tables import EVERY_SIGN, NO_TABLES, SIXTY
from wherebase.errors import InvalidOperation, InvalidShape, InvalidTable, ParseError, TooMany
from wherebase.shape.overlays import joint
from wherebase.shape.shapes import Shape, area, dots, filled, line
from wherebase.table.tables import Table, table_of
from wherebase.text.formats import read_shape, read_table, write_shape, write_table

LONG, LONGER = 10 ** 1000 - 1, 10 ** 1000
NO_STRINGS = (None, True, 5, (), [], {}, b"{ }", ["{", "}"], ("{ }",), SQUARE, Table({"a": "text"}))
WRONG_INTEGERS = ("", "-", "+1", "01", "00", "-0", "-01", "--1", "1.0", "1e3", "0x1", "a", "1_000", " 1", "1\n", "\t1",
    "1-", "True",
    "9" * 1001, "-" + "9" * 1001, "0" * 1000, "\u0661", "\u00b2")
WRONG_POINTS = ("1", "1,", ",1", ",", "1,2,3", "1;2", "1, 2", "(1,2)", "1/1,0", "2/4,0", "0/2,0", "1/0,0", "1/-2,0",
    "1/02,0", "1/,0", "/2,0",
    "1/2/3,0", "0,-0", "0,1/1", "-2/4,0", "1//2,0", *[f"{word},0" for word in WRONG_INTEGERS],
    *[f"0,{word}" for word in WRONG_INTEGERS],
    *[f"1/{word},0" for word in WRONG_INTEGERS])
POINT = re.compile(r"(0|-?[1-9][0-9]*)(/([1-9][0-9]*))?,(0|-?[1-9][0-9]*)(/([1-9][0-9]*))?$")


def is_point_word(word):
    """Whether a word tells a point, by the words of 17.1."""
    found = POINT.match(word)
    if found is None or word.endswith("\n"):
        return False
    for top, bottom in ((found[1], found[3]), (found[4], found[6])):
        if len(top.lstrip("-")) > 1000 or len(bottom or "") > 1000:
            return False
        if bottom is not None and (int(bottom) < 2 or gcd(int(top), int(bottom)) > 1):
            return False
    return True


def is_shape_told(words):
    """Whether words tell a shape, by one pattern for signs and points."""
    signs = "".join("p" if is_point_word(word) else word if word in ("{", "}", "[", "]", "<", ">",
        "/") else "?" for word in words)
    return re.fullmatch(r"\{(p|<pp>|\[ppp+(/ppp+)*\])*\}", signs) is not None


def index_told(words):
    """The index that a ParseError for words keeps: what can follow makes a shape of a right beginning."""
    endings = [(), ("}",), (">", "}"), ("0,0", ">", "}"), ("0,0",) * 2 + (">", "}"), ("]", "}"), ("0,0", "]", "}"),
        ("0,0",) * 2 + ("]", "}"),
        ("0,0",) * 3 + ("]", "}"), ("{", "}")]
    for index in range(len(words)):
        if not any(is_shape_told([*words[:index + 1], *ending]) for ending in endings):
            return index
    return None if is_shape_told(words) else len(words)


class ShapeTest(unittest.TestCase):
    def check(self, shape, string):
        self.assertEqual(write_shape(shape), string)
        self.assertEqual(read_shape(string), shape)

    def test_written(self):
        for shape, string in (
            (EMPTY, "{ }"), (WELL, "{ 2,2 }"), (dots((1, 1, 2), (-1, 0, 3), (0, 0)), "{ -1/3,0 0,0 1/2,1/2 }"),
            (SQUARE, "{ [ 0,0 4,0 4,4 0,4 ] }"), (FRAME, "{ [ 0,0 4,0 4,4 0,4 / 1,1 1,3 3,3 3,1 ] }"),
            (ROAD, "{ < -1,2 5,2 > }"),
            (dots((3, 4, 6)), "{ 1/2,2/3 }"), (dots((-6, 1, 4)), "{ -3/2,1/4 }"), (dots((0, 1, 9)), "{ 0,1/9 }"),
            (joint(SQUARE, line((9, 9), (7, 9)), dots((-5, 0), (6, 1, 4)), area((8, 0), (9, 0), (9, 3, 2))),
                "{ [ 0,0 4,0 4,4 0,4 ] [ 8,0 9,0 9/2,3/2 ] < 7,9 9,9 > -5,0 }"),
            (line((0, 0), (0, 1), (1, 1, 3)), "{ < 0,0 0,1 > < 0,1 1/3,1/3 > }"),
        ):
            self.check(shape, string)

    def test_round_trips(self):
        rows = random.Random(170)
        for turn in range(80):
            told = random_told(rows)
            shape = led_shape(rows.choice(MAPS), Shape(*told)) if turn % 3 else Shape(*told)
            string = write_shape(shape)
            self.assertEqual(read_shape(string), shape)
            self.assertEqual(write_shape(read_shape(string)), string)
            self.assertIs(is_shape_told(string.split(" ")), True)

    def test_parts_in_any_order(self):
        rows = random.Random(171)
        for _ in range(60):
            areas, pieces, points = random_told(rows)
            word = lambda corner: f"{corner[0]},{corner[1]}"
            parts = ["[ " + " / ".join(" ".join(map(word, ring)) for ring in rings) + " ]" for rings in areas]
            parts += [f"< {word(one)} {word(other)} >" for one, other in pieces] + [word(point) for point in points]
            rows.shuffle(parts)
            self.assertEqual(read_shape(" ".join(["{", *parts, "}"])), Shape(areas, pieces, points))

    def test_told(self):
        for string, shape in (
            ("{ 2,2 [ 0,0 4,0 4,4 0,4 / 1,1 3,1 3,3 1,3 ] < 2,2 2,2 > }", joint(FRAME, WELL)),
            ("{ < 2,2 2,2 > }", WELL),
            ("{ 2,2 2,2 < 2,2 2,2 > }", WELL), ("{ [ 0,0 0,0 0,0 ] }", EMPTY), ("{ [ 0,0 1,0 2,0 ] }", EMPTY),
            ("{ [ 4,4 4,0 0,0 0,4 ] }", SQUARE), ("{ [ 0,0 0,4 4,4 2,4 4,0 2,0 ] }",
            area((0, 0), (0, 4), (4, 4), (2, 4), (4, 0), (2, 0))),
            ("{ < 5,2 2,2 > < -1,2 2,2 > }", ROAD), ("{ [ 0,0 4,0 4,4 0,4 / 0,0 4,0 4,4 0,4 ] }", EMPTY),
            ("{ [ 0,0 4,4 4,0 0,4 ] }", filled(((0, 0), (4, 4), (4, 0), (0, 4)))),
            ("{ [ 0,0 4,0 4,4 0,4 ] [ 1,1 3,1 3,3 1,3 ] }", SQUARE), ("{ 1/2,-3/4 }", dots((2, -3, 4))),
        ):
            self.assertEqual(read_shape(string), shape)

    def test_great_integers(self):
        great = dots((LONG, -LONG), (1, LONG, LONG))
        self.assertEqual(read_shape(write_shape(great)), great)
        # the bottom of the point has two thousand digits
        string = f"{{ 1/{LONG},1/{LONG - 1} }}"
        self.assertEqual(write_shape(read_shape(string)), string)
        self.assertGreater(read_shape(string).points[0][2], LONGER)
        for point in ((LONGER, 0), (0, -LONGER), (1, 0, LONGER), (0, 1, LONGER), (LONGER, 1, 3),
            (HUGE, LONGER * LONGER, HUGE)):
            for shape in (dots(point), line((0, 0), point), area((0, 0), (1, 7), point)):
                error = raised(write_shape, shape)
                self.assertIsInstance(error, TooMany)
                self.assertEqual(error.limit, 1000)
        # with a common divisor taken out
        self.assertEqual(write_shape(dots((LONGER, 1, 10))), f"{{ {10 ** 999},1/10 }}")
        self.assertEqual(len(write_shape(dots((-10 ** 999, 0)))), 1007)

    def test_large_shapes(self):
        for shape in (RAILS, POSTS, SIXTY, EMPTY):
            self.assertEqual(read_shape(write_shape(shape)), shape)
        both = Shape(RAILS.areas, RAILS.pieces, tuple((k, -1) for k in range(80)))
        self.assertEqual(read_shape(write_shape(both)), both)
        for more in ("0,-2", "< 0,0 0,0 >", "[ 0,0 0,0 0,0 ]"):
            error = raised(read_shape, write_shape(both)[:-1] + more + " }")
            self.assertIsInstance(error, TooMany)
            self.assertEqual(error.limit, 200)
            # words are judged first
            error = raised(read_shape, write_shape(both)[:-1] + more + " ] }")
            self.assertIsInstance(error, ParseError)
        self.assertEqual(read_shape("{ [ " + "0,0 " * 200 + "] }"), EMPTY)
        self.assertIsInstance(raised(read_shape, "{ [ " + "0,0 " * 201 + "] }"), TooMany)

    def test_wrong_words(self):
        for string, index in (
            ("", 0), (" ", 0), ("}", 0), ("0,0", 0), ("x", 0), ("{}", 0), (" { }", 0), ("{", 1), ("{ {", 1), ("{ ", 1),
            ("{  }", 1), ("{ } ", 2),
            ("{ } }", 2), ("{ } {", 2), ("{ } 0,0", 2), ("{ ]", 1), ("{ >", 1), ("{ /", 1), ("{ [", 2), ("{ [ ]", 2),
            ("{ [ /", 2), ("{ [ }", 2),
            ("{ [ 0,0 1,0 ] }", 4), ("{ [ 0,0 1,0 / 0,1 ] }", 4), ("{ [ 0,0 1,0 0,1", 5), ("{ [ 0,0 1,0 0,1 ]", 6),
            ("{ [ 0,0 1,0 0,1 /", 6),
            ("{ [ 0,0 1,0 0,1 / ] }", 6), ("{ [ 0,0 1,0 0,1 / 0,0 1,0 ] }", 8), ("{ [ 0,0 1,0 0,1 }", 5),
            ("{ [ 0,0 1,0 0,1 [", 5),
            ("{ [ 0,0 1,0 0,1 <", 5), ("{ [ 0,0 1,0 0,1 / /", 6), ("{ <", 2), ("{ < >", 2), ("{ < 0,0 >", 3),
            ("{ < 0,0 1,1", 4), ("{ < 0,0 1,1 2,2 >", 4),
            ("{ < 0,0 1,1 ]", 4), ("{ < 0,0 1,1 > >", 5), ("{ < 0,0 1,1 >", 5), ("{ < 0,0 / 1,1 >", 3),
            ("{ 0,0 / 1,1 }", 2), ("{ 0,0", 2),
            ("{ 0,0 1,1 2 }", 3), ("{\n}", 0), ("{ }\n", 1), ("{ 0,0\n}", 1), ("{ 0,0  1,1 }", 2), ("{ \t }", 1),
            ("{ [0,0 1,0 0,1] }", 1),
            ("{ ( }", 1), ("{ = }", 1),
        ):
            words = string.split(" ")
            self.assertEqual(index_told(words), index, string)
            error = raised(read_shape, string)
            self.assertIsInstance(error, ParseError, string)
            self.assertEqual(error.index, index, string)

    def test_wrong_points(self):
        for word in WRONG_POINTS:
            for ahead, behind in (("{ ", " }"), ("{ 0,0 < 1,1 ", " > }"), ("{ [ 0,0 1,1/2 ", " 1,1 ] }"), ("{ ", "")):
                string = ahead + word + behind
                error = raised(read_shape, string)
                self.assertIsInstance(error, ParseError, string)
                expected = index_told(string.split(" "))
                self.assertEqual(error.index, expected, string)
                if " " not in word:
                    self.assertEqual(expected, len(ahead.split(" ")) - 1)
        self.assertEqual(read_shape("{ " + "9" * 1000 + ",-" + "9" * 1000 + " }"), dots((LONG, -LONG)))

    def test_drawn_words(self):
        rows = random.Random(172)
        seen = {}
        for _ in range(1500):
            words = write_shape(drawn_shape(rows)).split(" ")
            for _ in range(rows.choice([1, 1, 2])):
                place = rows.randint(0, len(words))
                word = rows.choice(["{", "}", "[", "]", "<", ">", "/", "", "0,0", "1/2,3", "2/2,1", "x", "5"])
                change = rows.choice(["put", "cut", "set", "out"])
                words = words[:place] + ([word] if change in ("put", "set") else []) + (
                    [] if change == "cut" else words[place + (change != "put"):])
            words = words or [""]
            index = index_told(words)
            error = raised(read_shape, " ".join(words))
            self.assertEqual(error and error.index, index, words)
            seen[index] = True
        self.assertGreater(len(seen), 8)

    def test_wrong_arguments(self):
        for shape in NO_SHAPES:
            self.assertIsInstance(raised(write_shape, shape), InvalidShape)
        for string in NO_STRINGS:
            self.assertIsInstance(raised(read_shape, string), InvalidOperation)
            self.assertIsInstance(raised(read_table, string), InvalidOperation)


TABLE = Table({"name": "text", "spot": "shape", "worth": "number"})
for told in ({"name": "a b\\c", "worth": -5}, {"spot": FRAME, "name": ""}, {}, {"spot": EMPTY, "worth": 0}):
    TABLE = TABLE.put(told)
TABLE = TABLE.without(3).put({"name": " ", "spot": dots((1, 1, 2)), "worth": 7})
LINES = ["next 6", "column name text", "column spot shape", "column worth number", "row 1 name =a\\_b\\\\c worth -5",
    "row 2 name = spot { [ 0,0 4,0 4,4 0,4 / 1,1 1,3 3,3 3,1 ] }", "row 4 spot { } worth 0",
    "row 5 name =\\_ spot { 1/2,1/2 } worth 7"]


def is_table_told(lines):
    """Whether lines tell a table: its words are found by patterns, and the table is written again."""
    if len(lines) < 2 or not re.fullmatch(r"next [1-9][0-9]*", lines[0]) or len(lines[0]) > 1005:
        return False
    kinds, rows, names = {}, {}, [line_of.split(" ") for line_of in lines[1:] if line_of.startswith("column ")]
    for words in names:
        if len(words) != 3 or not re.fullmatch(r"[a-z]{1,20}", words[1]) or words[2] not in ("number", "text", "shape"):
            return False
        kinds[words[1]] = words[2]
    if not 1 <= len(kinds) <= 8 or list(kinds) != sorted(words[1] for words in names):
        return False
    patterns = {"number": r"(?P<told>0|-?[1-9][0-9]{0,999})", "text": r"(?P<told>=([!-\[\]-~]|\\_|\\\\)*)",
        "shape": r"(?P<told>\{ [^}{]*\})"}
    for line_of in lines[1 + len(names):]:
        found = re.fullmatch(r"row ([1-9][0-9]{0,999})(.*)", line_of)
        if not found:
            return False
        number, rest, values = int(found[1]), found[2], {}
        for column, kind in kinds.items():
            part = re.match(f" {column} {patterns[kind]}(?= |$)", rest)
            if part is None:
                continue
            rest, word = rest[part.end():], part["told"]
            if kind == "shape":
                if raised(read_shape, word) or len(read_shape(word)) > 60:
                    return False
                values[column] = read_shape(word)
            elif kind == "number":
                values[column] = int(word)
            else:
                values[column] = re.sub(r"\\(.)", lambda sign: " " if sign[1] == "_" else "\\", word[1:])
                if len(values[column]) > 40:
                    return False
        if rest or number in rows or number < max(rows, default=0):
            return False
        rows[number] = values
    return len(rows) <= 60 and max(rows, default=0) < int(lines[0][5:])


class TableTest(unittest.TestCase):
    def test_written(self):
        self.assertEqual(write_table(TABLE).split("\n"), LINES)
        self.assertEqual(write_table(Table({"b": "shape", "a": "text"})), "next 1\ncolumn a text\ncolumn b shape")
        self.assertEqual(write_table(Table({"b": "shape"}).put({}).put({}).without(1)), "next 3\ncolumn b shape\nrow 2")
        self.assertEqual(read_table("\n".join(LINES)), TABLE)
        self.assertEqual(read_table("next 1\ncolumn a text"), Table({"a": "text"}))
        self.assertEqual(read_table("next 9\ncolumn a text\nrow 8").numbers, (8,))
        self.assertEqual(read_table("next 9\ncolumn a text\nrow 8").put({}).numbers, (8, 9))
        self.assertEqual(read_table(f"next {LONG}\ncolumn a text").put({}).numbers, (LONG,))

    def test_signs(self):
        table = Table({"name": "text"})
        for text in (EVERY_SIGN[:40], EVERY_SIGN[40:80], EVERY_SIGN[80:], "\\" * 40, " " * 40, "\\_", "_", "\\ \\",
            "=", "", "{ }", "name"):
            table = table.put({"name": text})
        self.assertEqual(read_table(write_table(table)), table)
        self.assertEqual(write_table(table).split("\n")[7:9], ["row 6 name =\\\\_", "row 7 name =_"])

    def test_round_trips(self):
        rows = random.Random(173)
        for _ in range(25):
            table = drawn_table(rows, rows.randint(0, 20))
            if rows.random() < 0.5 and len(table):
                table = table.without(table.numbers[-1])
            string = write_table(table)
            again = read_table(string)
            self.assertEqual(again, table)
            self.assertEqual((write_table(again), again.next_number), (string, table.next_number))
            self.assertIs(is_table_told(string.split("\n")), True)

    def test_told_shapes(self):
        lines = ["next 2", "column spot shape", "row 1 spot { 2,2 < 2,2 2,2 > [ 4,4 4,0 0,0 0,4 ] }"]
        self.assertEqual(read_table("\n".join(lines)).row(1)["spot"], SQUARE)
        for words, is_right in (("{ " + "0,0 " * 200 + "}", True), ("{ " + "0,0 " * 201 + "}", False),
            (write_shape(SIXTY), True),
                (write_shape(SIXTY)[:-1] + "0,1 }", False), ("{ [ 0,0 1,0 ] }", False), ("{ 0,0", False),
                ("0,0 }", False), ("{ } }", False),
                ("", False), ("{ }", True), ("{ 2/4,1 }", False)):
            error = raised(read_table, "\n".join([*lines[:2], "row 1 spot " + words]))
            self.assertEqual(error and error.index, None if is_right else 2, words)

    def test_great_integers(self):
        table = Table({"spot": "shape", "worth": "number"}).put({"worth": LONG,
            "spot": dots((LONG, 1))}).put({"worth": -LONG})
        self.assertEqual(read_table(write_table(table)), table)
        for values in ({"worth": LONGER}, {"worth": -LONGER}, {"spot": dots((LONGER, 0))},
            {"spot": dots((1, 1, LONGER))}):
            error = raised(write_table, table.put(values))
            self.assertIsInstance(error, TooMany)
            self.assertEqual(error.limit, 1000)
        self.assertEqual(raised(write_table, read_table(f"next {LONG}\ncolumn a text").put({}).put({})).limit, 1000)
        self.assertEqual(raised(write_table, table_of({"a": "text"}, {LONGER: {"a": None}}, 5)).limit, 1000)
        for line_of, index in ((f"next {LONGER}", 0), (f"next {-LONG}", 0)):
            self.assertEqual(raised(read_table, line_of + "\ncolumn a text").index, index)
        self.assertEqual(raised(read_table, f"next {LONG}\ncolumn a number\nrow {LONG - 1} a {LONG}"), None)
        for line_of in (f"row {LONGER}", f"row 1 a {LONGER}", f"row 1 a {-LONGER}", f"row {LONG}"):
            self.assertEqual(raised(read_table, f"next {LONG}\ncolumn a number\n{line_of}").index, 2)

    def test_wrong_lines(self):
        head = ["next 4", "column a number", "column b text", "column c shape"]
        for lines, index in (
            ([""], 0), (["next"], 0), (["next "], 0), (["next 0"], 0), (["next -1"], 0), (["next 01"], 0),
            (["next 1 "], 0), (["next 1 1"], 0), (["Next 1"], 0),
            (["column a text"], 0), (["row 1"], 0), ([" next 1"], 0), (["next 1"], 1), (["next 1", ""], 1),
            (["next 1", "next 1"], 1),
            (["next 2", "row 1"], 1), (["next 1", "column"], 1), (["next 1", "column a"], 1),
            (["next 1", "column a number "], 1),
            (["next 1", "column a bool"], 1), (["next 1", "column A text"], 1), (["next 1", "column  text"], 1),
            (["next 1", "column text"], 1),
            (["next 1", "column a text text"], 1), (["next 1", f"column {'a' * 21} text"], 1),
            (["next 1", "column b text", "column a text"], 2),
            (["next 1", "column a text", "column a number"], 2), (["next 1", "column a text", "row 1"], 2),
            ([*head, "column d text", ""], 5),
            ([*head, "row 1", "column d text"], 5), ([*head, "row 0"], 4), ([*head, "row 4"], 4),
            ([*head, "row 3", "row 2"], 5), ([*head, "row 2", "row 2"], 5),
            ([*head, "row"], 4), ([*head, "row "], 4), ([*head, "row a"], 4), ([*head, "row 01"], 4),
            ([*head, "row 1 "], 4), ([*head, "row 1 d 5"], 4),
            ([*head, "row 1 a"], 4), ([*head, "row 1 a =x"], 4), ([*head, "row 1 a 5 6"], 4),
            ([*head, "row 1 a 5 a 5"], 4), ([*head, "row 1 b =x a 5"], 4),
            ([*head, "row 1 b x"], 4), ([*head, "row 1 b 5"], 4), ([*head, "row 1 b =x y"], 4),
            ([*head, "row 1 b =\\"], 4), ([*head, "row 1 b =\\x"], 4),
            ([*head, "row 1 b =x\t"], 4), ([*head, "row 1 b ==x", "x"], 5), ([*head, "row 1 c =x"], 4),
            ([*head, "row 1 c {"], 4), ([*head, "row 1 c {}"], 4),
            ([*head, "row 1 c { } c { }"], 4), ([*head, "row 1 c { } }"], 4), ([*head, "row 1 c 0,0"], 4),
            ([*head, "row 1 c { a 5 }"], 4),
            ([*head, f"row 1 b ={'x' * 41}"], 4), ([*head, f"row 1 b ={'x' * 39}{chr(92) * 4}"], 4),
            ([*head, "row 1", "", "row 2"], 5), ([*head, "row 1  a 5"], 4),
            ([*head, "row 1 a  5"], 4), ([*head, "row 1 a 05"], 4), ([*head, "row 1 a -0"], 4),
            ([*head, "row 1 a 1/2"], 4), ([*head, "row 1 c"], 4),
            ([*head, "row 1 a 5 b =x c { } "], 4), ([*head, "row 1 None"], 4), ([*head, "row -1"], 4),
            ([*head, "row 1\r"], 4),
        ):
            self.check(lines, index)
        many = ["next 99", *[f"column {'a' * (k + 1)} text" for k in range(8)]]
        self.check(many, None)
        self.check([*many, f"column {'a' * 9} text"], 9)
        self.check([*many, *[f"row {k + 2}" for k in range(60)]], None)
        self.check([*many, *[f"row {k + 2}" for k in range(61)]], 69)

    def check(self, lines, index):
        """Checks the index of the first line that cannot stand there, also by the beginnings that tell tables."""
        error = raised(read_table, "\n".join(lines))
        if index is None:
            self.assertIsNone(error, lines)
        else:
            self.assertIsInstance(error, ParseError, lines)
            self.assertEqual(error.index, index, lines)
        told = None if is_table_told(lines) else len(lines)
        for place in range(len(lines), 0, -1):
            beginning = [*lines[:1], "column a text"] if place == 1 else lines[:place]
            if not is_table_told(beginning):
                told = place - 1
        self.assertEqual(index, told, lines)

    def test_drawn_lines(self):
        rows = random.Random(174)
        seen = {}
        for _ in range(400):
            lines = write_table(drawn_table(rows, rows.randint(0, 4))).split("\n")
            for _ in range(rows.choice([1, 1, 2])):
                place = rows.randint(0, len(lines) - 1) if lines else 0
                change = rows.choice(["cut", "out", "twice", "swap", "word", "word", "word", "sign", "sign"])
                if change == "cut":
                    lines = lines[:place]
                elif change == "out":
                    lines = lines[:place] + lines[place + 1:]
                elif change == "twice":
                    lines = lines[:place + 1] + lines[place:]
                elif change == "swap" and lines:
                    lines[place], lines[0] = lines[0], lines[place]
                elif lines:
                    pieces = lines[place].split(" ") if change == "word" else list(lines[place])
                    at = rows.randint(0, len(pieces))
                    more = rows.choice([[], ["5"], ["=x"], [""], ["name"], ["{"], ["}"], ["\\"], ["row"], ["-"],
                        ["0,0"]])
                    pieces = pieces[:at] + more + pieces[at + rows.randint(0, 1):]
                    lines[place] = (" " if change == "word" else "").join(pieces)
            lines = lines or [""]
            error = raised(read_table, "\n".join(lines))
            self.check("\n".join(lines).split("\n"), error and error.index)
            seen[error and error.index] = True
        self.assertGreater(len(seen), 6)

    def test_wrong_arguments(self):
        for table in NO_TABLES:
            self.assertIsInstance(raised(write_table, table), InvalidTable)
        self.assertEqual(read_table(write_table(Table(KINDS_OF))), Table(KINDS_OF))


if __name__ == "__main__":
    unittest.main()
