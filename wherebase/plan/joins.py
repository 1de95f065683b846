"""Joins: pairs of rows of two tables, and the plans that find them."""

from wherebase.errors import InvalidOperation, InvalidPlan, InvalidTree
from wherebase.base.numbers import is_name
from wherebase.meet.meets import RELATIONS
from wherebase.plan.plans import ROW_COST, boxes_of, is_tree_of, tree_of
from wherebase.plan.windows import wider
from wherebase.table.conditions import is_true_of
from wherebase.table.tables import check_table
from wherebase.table.terms import is_square
from wherebase.tree.searches import searched_together

_LOOPS = ("loops",)
_TREE = ("tree",)
_TREES = ("trees",)


def is_join(one_table, other_table, value):
    """Whether the value is a join of two tables."""
    check_table(one_table)
    check_table(other_table)
    if not isinstance(value, tuple) or len(value) < 3:
        return False
    word, column, other_column, *more = value
    if not is_name(column) or not is_name(other_column):
        return False
    kind, other_kind = one_table.kinds.get(column), other_table.kinds.get(other_column)
    if kind is None or kind != other_kind:
        return False
    if word == "near":
        return kind == "shape" and len(more) == 1 and is_square(more[0])
    return len(more) == 0 and (word == "same" or kind == "shape" and word in RELATIONS)


def pairs(one_table, other_table, join):
    """The ascending tuple of the pairs of rows of which a join is true."""
    _check_join(one_table, other_table, join)
    if _TREES not in _plans_for(one_table, join):
        return run_join(one_table, other_table, join, _LOOPS)[0]
    one, other = tree_of(one_table, join[1]), tree_of(other_table, join[2])
    return run_join(one_table, other_table, join, _TREES, one_tree=one, other_tree=other)[0]


def kept_pairs(one_table, other_table, join):
    """The pairs, and for each row of the first table that stands in none of them a pair with None."""
    told = pairs(one_table, other_table, join)
    found = {number: [] for number in one_table.numbers}
    for number, other in told:
        found[number].append(other)
    return tuple([(number, other) for number in found for other in found[number] or [None]])


def run_join(one_table, other_table, join, plan, *, one_tree=None, other_tree=None):
    """The pair of the pairs of rows of which a join is true, and of the cost of a plan."""
    _check_join(one_table, other_table, join)
    if plan not in _plans_for(one_table, join):
        raise InvalidPlan("no plan for the join")
    if plan == _TREES and not is_tree_of(one_table, join[1], one_tree):
        raise InvalidTree("no tree of the first table")
    if plan != _LOOPS and not is_tree_of(other_table, join[2], other_tree):
        raise InvalidTree("no tree of the other table")
    decided, looked = _decided(one_table, other_table, join, plan, one_tree, other_tree)
    rows, other_rows = one_table.rows, other_table.rows
    found = [(number, other) for number, other in decided
             if _is_true(join, rows[number][join[1]], other_rows[other][join[2]])]
    return (tuple(found), ROW_COST * len(decided) + looked)


def _check_join(one_table, other_table, join):
    if not is_join(one_table, other_table, join):
        raise InvalidOperation("no join of the tables")


def _plans_for(table, join):
    """The list of the join plans for a join, of which one column is a column of the table."""
    if join[0] == "apart" or table.kinds[join[1]] != "shape":
        return [_LOOPS]
    return [_LOOPS, _TREE, _TREES]


def _decided(one_table, other_table, join, plan, one_tree, other_tree):
    """The ascending list of the pairs that a plan decides, and how many boxes, or pairs of boxes, it compares."""
    every = [(number, other) for number in one_table for other in other_table]
    if plan == _LOOPS:
        return every, 0
    boxes = boxes_of(one_table, join[1])
    met, looked = _met_by_boxes(boxes, other_tree, join) if plan == _TREE else _met(one_tree, other_tree, join)
    # a value that is missing or empty has no box
    return [pair for pair in every if pair[0] not in boxes or pair[1] not in other_tree or pair in met], looked


def _is_true(join, value, other):
    """Whether a join is true of two values."""
    return value is not None and other is not None and is_true_of(join, value, other)


def _met_by_boxes(boxes, tree, join):
    """A dict with the pairs of numbers that a search of a tree by each box finds, and how many boxes are compared."""
    found, looked = {}, 0
    for number, box in boxes.items():
        others, _, compared = tree.search_paper(_reached(box, join))
        looked += compared
        for other in others:
            found[(number, other)] = True
    return found, looked


def _met(tree, other_tree, join):
    """A dict with the pairs of numbers that a search of two trees finds, and how many pairs of boxes it compares."""
    found, looked = searched_together(tree.form, _reached_form(other_tree.form, join))
    return {pair: True for pair in found}, looked


def _reached(box, join):
    """A box, made wider for "near"."""
    return wider(box, join[3]) if join[0] == "near" else box


def _reached_form(form, join):
    """A form with all boxes made wider for "near"."""
    word, members = form
    if word == "leaf":
        return (word, tuple([(number, _reached(box, join)) for number, box in members]))
    return (word, tuple([(_reached(box, join), _reached_form(inner, join)) for box, inner in members]))
