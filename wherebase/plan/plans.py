"""Plans: ways to answer a question, by trees of the boxes of shapes."""

from wherebase.errors import InvalidPlan, InvalidTree
from wherebase.plan.questions import check_question, told_rows
from wherebase.plan.windows import windows_of
from wherebase.table.conditions import check_condition, truth_in
from wherebase.table.tables import check_column, check_kind, check_table
from wherebase.tree.boxes import box_of
from wherebase.tree.forms import numbers_at
from wherebase.tree.trees import Tree

ROW_COST = 10


def tree_of(table, column):
    """The tree of the boxes of the shapes in a column that are neither missing nor empty."""
    check_table(table)
    check_column(table, column)
    check_kind(table, column, "shape")
    return Tree(tuple(boxes_of(table, column).items()))


def are_fitting(table, value):
    """Whether the value is a dict from columns of shapes to trees with just the entries of `tree_of`."""
    check_table(table)
    if not isinstance(value, dict):
        return False
    kinds = table.kinds
    return all([kinds.get(column) == "shape" and is_tree_of(table, column, value[column]) for column in value])


def run(table, trees, condition, plan, *, order=(), limit=None):
    """The pair of the answer to a question and of the cost of a plan."""
    _check_trees(table, trees)
    check_condition(table, condition)
    _check_plan(trees, plan)
    check_question(table, order, limit)
    rows = table.rows
    left, looked = _left_out(trees, condition, plan)
    decided = [number for number in rows if number not in left]
    found = [number for number in decided if truth_in(rows[number], condition)]
    return (told_rows(rows, found, order, limit), ROW_COST * len(decided) + looked)


def plans(table, trees, condition):
    """The ascending tuple of the pairs of the cost and the plan of all plans."""
    _check_trees(table, trees)
    check_condition(table, condition)
    found = []
    for plan in _plans_for(trees):
        left, looked = _left_out(trees, condition, plan)
        found.append((ROW_COST * (len(table) - len(left)) + looked, plan))
    return tuple(sorted(found))


def best_plan(table, trees, condition):
    """The plan with the least cost."""
    return plans(table, trees, condition)[0][1]


def reasons(table, trees, condition, plan, *, order=(), limit=None):
    """The dict from the numbers of all rows to the reasons why they are told or not."""
    told, _ = run(table, trees, condition, plan, order=order, limit=limit)
    rows = table.rows
    left, _ = _left_out(trees, condition, plan)
    words = {True: ("behind",), False: ("false",), None: ("unknown",)}
    found = {}
    for number in rows:
        if number in left:
            found[number] = left[number]
        elif number in told:
            found[number] = ("told", told.index(number))
        else:
            found[number] = words[truth_in(rows[number], condition)]
    return found


def boxes_of(table, column):
    """The dict from the numbers of rows to the boxes of their shapes, if these are neither missing nor empty."""
    shapes = [(number, row[column]) for number, row in table.rows.items()]
    return {number: box_of(shape) for number, shape in shapes if shape is not None and len(shape) > 0}


def is_tree_of(table, column, value):
    """Whether the value is a tree with just the entries of `tree_of`."""
    return isinstance(value, Tree) and value.boxes == boxes_of(table, column)


def _check_trees(table, trees):
    if not are_fitting(table, trees):
        raise InvalidTree("no dict of trees that fits the table")


def _check_plan(trees, plan):
    if plan not in _plans_for(trees):
        raise InvalidPlan("no plan for the table and the trees")


def _plans_for(trees):
    """The list of all plans for the columns that have trees."""
    columns = sorted(list(trees))
    both = [("both", one, other) for one in columns for other in columns if one < other]
    return [("all",), *[("tree", column) for column in columns], *both]


def _left_out(trees, condition, plan):
    """The dict from the rows that a plan does not decide to the reasons, and how many boxes it compares."""
    found, looked = {}, 0
    for column in plan[1:]:
        own, compared = _left_out_by(trees[column], condition, column)
        # a row that both columns leave out is told by the first one
        found = {**own, **found}
        looked += compared
    return found, looked


def _left_out_by(tree, condition, column):
    """The dict from the rows that the tree of one column leaves out to the reasons, and how many boxes it compares."""
    box, _ = windows_of(condition, column)
    if box == "all":
        return {}, 0
    if box == "none":
        return {number: ("never", column) for number in tree}, 0
    _, left, looked = tree.search_paper(box)
    found = {}
    for place, word in left:
        for number in numbers_at(tree.form, place):
            found[number] = ("apart", column, place, word)
    return found, looked
