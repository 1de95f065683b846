"""Runs the examples of the document, which stand in examples.txt."""

import os
import unittest

import wherebase.base.numbers
import wherebase.base.points
import wherebase.book.books
import wherebase.draw.drawings
import wherebase.errors
import wherebase.maps.maps
import wherebase.measure.measures
import wherebase.meet.meets
import wherebase.net.layers
import wherebase.net.nets
import wherebase.plan.groups
import wherebase.plan.joins
import wherebase.plan.plans
import wherebase.plan.questions
import wherebase.plan.windows
import wherebase.rule.rules
import wherebase.shape.overlays
import wherebase.shape.shapes
import wherebase.table.conditions
import wherebase.table.tables
import wherebase.text.formats
import wherebase.tree.boxes
import wherebase.tree.trees

MODULES = (
    wherebase.errors,
    wherebase.base.numbers,
    wherebase.base.points,
    wherebase.shape.shapes,
    wherebase.draw.drawings,
    wherebase.meet.meets,
    wherebase.shape.overlays,
    wherebase.measure.measures,
    wherebase.maps.maps,
    wherebase.net.nets,
    wherebase.net.layers,
    wherebase.tree.boxes,
    wherebase.tree.trees,
    wherebase.table.tables,
    wherebase.table.conditions,
    wherebase.plan.questions,
    wherebase.plan.windows,
    wherebase.plan.plans,
    wherebase.plan.joins,
    wherebase.plan.groups,
    wherebase.rule.rules,
    wherebase.book.books,
    wherebase.text.formats,
)
EXAMPLES = os.path.join(os.path.dirname(os.path.abspath(__file__)), "examples.txt")


def rows_of_examples():
    with open(EXAMPLES, encoding="utf-8") as file:
        return [row for row in file.read().splitlines() if row and not row.startswith("# ")]


class ExamplesTest(unittest.TestCase):
    def test_examples(self):
        names = {}
        for module in MODULES:
            names.update({name: value for name, value in vars(module).items() if not name.startswith("_")})
        rows = rows_of_examples()
        count = 0
        for row, told in zip(rows, rows[1:] + [">>> "]):
            if not row.startswith(">>> "):
                continue
            code = row[4:]
            count += 1
            if told.startswith(">>> "):
                exec(code, names)
            elif told.startswith("raises "):
                self.check_raises(code, told[7:], names)
            else:
                self.assertEqual(repr(eval(code, names)), told, row)
        self.assertEqual(count, 124)

    def check_raises(self, code, told, names):
        expected = eval(told, names)
        is_class = isinstance(expected, type)
        with self.assertRaises(expected if is_class else type(expected)) as caught:
            eval(code, names)
        if not is_class:
            self.assertEqual(vars(caught.exception), vars(expected))


if __name__ == "__main__":
    unittest.main()
