"""Errors: points 1.1 and 1.2."""

import unittest

from wherebase import errors
from wherebase.errors import (
    Broken, Conflict, InvalidNumber, NothingToUndo, ParseError, TakenName, TooMany, UnknownName, WhereError,
)

PLAIN = (
    "InvalidPoint InvalidShape InvalidCell InvalidDrawing InvalidMap InvalidLayer InvalidArcs InvalidBox InvalidName "
    "InvalidTree InvalidTable InvalidRow InvalidCondition InvalidQuestion InvalidPlan InvalidRule InvalidOperation"
).split()
FROM_PYTHON = {
    InvalidNumber: IndexError, UnknownName: KeyError, TooMany: OverflowError, NothingToUndo: LookupError,
    Conflict: RuntimeError, Broken: ArithmeticError,
}


class ErrorsTest(unittest.TestCase):
    def test_base(self):
        self.assertEqual(WhereError.__bases__, (ValueError,))

    def test_derived_from_the_base(self):
        for name in PLAIN + ["TakenName", "ParseError"]:
            self.assertEqual(getattr(errors, name).__bases__, (WhereError,), name)

    def test_derived_from_python(self):
        for kind, base in FROM_PYTHON.items():
            self.assertEqual(kind.__bases__, (base,))
            self.assertFalse(issubclass(kind, WhereError))

    def test_no_others(self):
        told = set(PLAIN) | {"WhereError", "TakenName", "ParseError"} | {kind.__name__ for kind in FROM_PYTHON}
        self.assertEqual({name for name, value in vars(errors).items() if isinstance(value, type)}, told)

    def test_messages(self):
        for name in PLAIN:
            self.assertEqual(str(getattr(errors, name)("some words")), "some words")

    def test_what_they_keep(self):
        self.assertEqual(TakenName("road").name, "road")
        self.assertEqual(ParseError(7).index, 7)
        for value in (None, True, -1, "x", (1, [2]), {}):
            self.assertEqual(repr(InvalidNumber(value).value), repr(value))
            self.assertEqual(repr(UnknownName(value).name), repr(value))
        self.assertEqual(TooMany(200).limit, 200)
        self.assertEqual(NothingToUndo(3).many, 3)
        self.assertEqual(Conflict("lots").name, "lots")
        broken = Broken("clear", (1, 3), (1, 2, 3))
        self.assertEqual((broken.rule_label, broken.row_numbers, broken.point), ("clear", (1, 3), (1, 2, 3)))
        self.assertIsNone(Broken("one", (1, 2), None).point)


if __name__ == "__main__":
    unittest.main()
