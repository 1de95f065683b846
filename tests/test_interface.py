"""The names, parameters and methods of the interface, as the document lists them."""

import ast
import importlib
import inspect
import os
import re
import unittest

ROOT = os.path.dirname(os.path.dirname(os.path.abspath(__file__)))

FUNCTIONS = {
    "wherebase.base.numbers": """is_name(value) is_fraction(value) lowest_of(top, bottom) plus(one, other)
        minus(one, other) times(one, other) is_less(one, other) whole_below(one) whole_above(one)""",
    "wherebase.base.points": """is_point(value) is_side(value) point_of(x, y, w=1) turn_of(one, two, three)
        is_between(point, one, two) line_meet(one, two, three, four) pieces_meet(one, two, three, four)
        middle_of(one, two) square_between(one, two) sorted_round(centre, points)""",
    "wherebase.shape.shapes": """area(*corners) filled(*rings) line(*corners) dots(*points) empty() place(shape, point)
        border(shape) body(shape) lines(shape) lone(shape) parts(shape) area_shapes(shape) without_holes(shape)
        knots(shape) ring_flaws(ring) is_form(value)""",
    "wherebase.draw.drawings": "told_drawing(drawing) is_drawing(shapes, value)",
    "wherebase.meet.meets": """nine(shape, other_shape) relations(shape, other_shape)
        is_related(shape, other_shape, name) relations_of(numbers) has_pattern(shape, other_shape, pattern)
        nines(*shapes) witness(shape, other_shape, first_place, second_place)
        is_witness(shape, other_shape, first_place, second_place, value)
        meet_shape(shape, other_shape, first_place, second_place)""",
    "wherebase.shape.overlays": """joint(*shapes) common(*shapes) less(shape, *others) either(shape, other_shape)
        cut_up(shape, other_shape) covers(shape, *others) open_point(shape, *others)
        is_open_point(value, shape, *others) greatest(shape)""",
    "wherebase.measure.measures": """area_of(shape) bounds(shape) square_distance(shape, other_shape)
        nearest_pair(shape, other_shape) is_nearest_pair(shape, other_shape, value)
        are_near(shape, other_shape, numerator, denominator) hull(shape) is_convex(shape) middle(shape)
        some_point(shape) is_some_point(shape, value) enclosed(shape) euler(shape)""",
    "wherebase.maps.maps": """shift(x, y, *, over=1) stretch(x, y, *, over=1) same() quarter() mirror()
        map_by(points, images) marks(shape) match(shape, other_shape) is_match(shape, other_shape, value)
        symmetries(shape)""",
    "wherebase.net.nets": """outline(shape) threads(shape) stroke_count(shape) strokes(shape) are_strokes(shape, value)
        loose(shape) sections(shape, other_shape)""",
    "wherebase.net.layers": """is_layer(value) covered(layer) double(layer) is_division(layer, shape) fault(layer, shape)
        is_fault(layer, shape, value) refined(layer, other_layer) dissolved(layer, groups) neighbours(layer)
        arcs(layer) arc_flaws(value) layer_of(arcs) rerouted(layer, index, way)""",
    "wherebase.tree.boxes": """is_box(value) box_of(shape) are_meeting(box, other_box) side_apart(box, other_box)
        box_joint(*boxes) box_common(box, other_box)""",
    "wherebase.tree.trees": "is_right_form(value) form_flaws(value)",
    "wherebase.table.tables": "",
    "wherebase.table.conditions": """is_term(table, value) is_condition(table, value) term_value(table, term, number)
        truth(table, condition, number) truths(table, condition) moved_inwards(table, condition)""",
    "wherebase.plan.questions": """answer(table, condition, *, order=(), limit=None) is_order(table, value)
        nearest(table, column, shape, count)""",
    "wherebase.plan.windows": "window(table, condition, column)",
    "wherebase.plan.plans": """tree_of(table, column) are_fitting(table, value)
        run(table, trees, condition, plan, *, order=(), limit=None) plans(table, trees, condition)
        best_plan(table, trees, condition) reasons(table, trees, condition, plan, *, order=(), limit=None)""",
    "wherebase.plan.joins": """is_join(one_table, other_table, value) pairs(one_table, other_table, join)
        kept_pairs(one_table, other_table, join)
        run_join(one_table, other_table, join, plan, *, one_tree=None, other_tree=None)""",
    "wherebase.plan.groups": """groups(table, columns, numbers=None) summed(table, numbers, what, column=None)
        linked(table, column, square)""",
    "wherebase.rule.rules": """apart_rule(label, table, column, *, at_end=False)
        single_rule(label, table, column, *, at_end=False)
        within_rule(label, table, column, other_table, other_column, *, at_end=False)
        divides_rule(label, table, column, shape, *, at_end=False) check_rule(label, table, condition, *, at_end=False)
        fits(rule, tables) is_true(rule, tables) breach(rule, tables) breached_rows(rule, tables)
        is_breach(rule, tables, value)""",
    "wherebase.book.books": "",
    "wherebase.text.formats": "write_shape(shape) write_table(table) read_shape(string) read_table(string)",
}
CLASSES = {
    ("wherebase.shape.shapes", "Shape(areas, pieces, points)"): """areas pieces points form dimension __contains__
        __bool__ __len__ __eq__ __str__""",
    ("wherebase.draw.drawings", "Drawing(*shapes)"): """shapes corners edges faces parts places cell_of point_in around
        faces_beside cells_with closed alone __len__ __eq__ __str__""",
    ("wherebase.maps.maps", "Map(a, b, c, d, e, f, *, over=1)"): """numbers factor __call__ led then __invert__ back
        keeps_ratios __eq__ __str__""",
    ("wherebase.tree.trees", "Tree(entries=())"): """told form height boxes box put without moved search search_paper
        pairs pairs_looked __contains__ __len__ __iter__ __eq__ __str__""",
    ("wherebase.table.tables", "Table(kinds)"): """kinds columns numbers rows next_number row put change without
        __contains__ __len__ __iter__ __eq__ __str__""",
    ("wherebase.rule.rules", "Rule(kind, label, places, told, at_end)"): "label kind at_end names __eq__ __str__",
    ("wherebase.book.books", "Book(tables, *rules)"): """names rules newest table changes begin add_rule remove_rule undo
        redo __len__ __contains__ __iter__ __str__""",
    ("wherebase.book.books", "Transaction(book, began, tables, early)"): """is_open began used marks table put change
        take_out mark back end drop __enter__ __exit__""",
}
METHODS = {
    ("wherebase.tree.trees", "Tree"): """told(form) put(self, number, box) without(self, number) moved(self, number, box)
        search(self, box) search_paper(self, box) pairs(self, other) pairs_looked(self, other)""",
    ("wherebase.table.tables", "Table"): """row(self, number) put(self, values) change(self, number, values)
        without(self, *numbers)""",
    ("wherebase.book.books", "Book"): """table(self, name, *, version=None) changes(self, version) begin(self)
        add_rule(self, rule) remove_rule(self, label) undo(self, many=1) redo(self, many=1)""",
    ("wherebase.book.books", "Transaction"): """table(self, name) put(self, name, values)
        change(self, name, number, values) take_out(self, name, *numbers) mark(self, label) back(self, label) end(self)
        drop(self)""",
}
CONSTANTS = {
    "wherebase.shape.shapes": {"MAX_TOLD": 200},
    "wherebase.draw.drawings": {"MAX_SHAPES": 8, "MAX_SIZE": 200},
    "wherebase.meet.meets": {
        "PLACES": ("inside", "border", "outside"),
        "RELATIONS": ("apart", "crosses", "enters", "equal", "holds", "meets", "overlaps", "touches", "within"),
    },
    "wherebase.net.layers": {"MAX_NAMES": 8},
    "wherebase.tree.trees": {"MAX_ENTRIES": 300},
    "wherebase.table.tables": {
        "MAX_COLUMNS": 8, "MAX_ROWS": 60, "MAX_SIZE": 60, "MAX_TEXT": 40, "KINDS": ("number", "shape", "text"),
    },
    "wherebase.table.conditions": {"MAX_PARTS": 60, "MAX_DEPTH": 8},
    "wherebase.plan.questions": {"MAX_ORDER": 4},
    "wherebase.plan.plans": {"ROW_COST": 10},
    "wherebase.rule.rules": {"RULE_KINDS": ("apart", "check", "divides", "single", "within")},
    "wherebase.book.books": {"MAX_TABLES": 8, "MAX_RULES": 16, "MAX_VERSIONS": 100},
}


def top_of(module):
    """The definitions and assignments at the top of a module's own file."""
    with open(os.path.join(ROOT, *module.split(".")) + ".py", encoding="utf-8") as file:
        return ast.parse(file.read()).body


class InterfaceTest(unittest.TestCase):
    def test_functions(self):
        for module, told in FUNCTIONS.items():
            defined = [node.name for node in top_of(module) if isinstance(node, ast.FunctionDef)]
            for call in re.findall(r"\w+\((?:[^()]|\(\))*\)", told):
                name, parameters = call.split("(", 1)
                self.assertIn(name, defined, module)
                found = inspect.signature(getattr(importlib.import_module(module), name))
                self.assertEqual(str(found), "(" + parameters, f"{module}.{name}")

    def test_classes(self):
        for (module, call), told in CLASSES.items():
            name, parameters = call.split("(", 1)
            found = getattr(importlib.import_module(module), name)
            self.assertEqual(str(inspect.signature(found)), "(" + parameters)
            own = [node for node in top_of(module) if isinstance(node, ast.ClassDef) and node.name == name]
            methods = [node.name for node in own[0].body if isinstance(node, ast.FunctionDef)]
            self.assertEqual([method for method in told.split() if method not in methods], [])

    def test_methods(self):
        for (module, name), told in METHODS.items():
            found = getattr(importlib.import_module(module), name)
            for call in re.findall(r"\w+\([^()]*\)", told):
                method, parameters = call.split("(", 1)
                self.assertEqual(str(inspect.signature(getattr(found, method))), "(" + parameters, f"{module}.{name}.{method}")

    def test_constants(self):
        for module, told in CONSTANTS.items():
            assigned = [node.targets[0].id for node in top_of(module) if isinstance(node, ast.Assign)]
            for name, value in told.items():
                self.assertIn(name, assigned)
                self.assertEqual(getattr(importlib.import_module(module), name), value)


if __name__ == "__main__":
    unittest.main()
