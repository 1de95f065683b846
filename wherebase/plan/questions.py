"""Questions: which rows of a table a condition is true of, in which order, and how many of them."""

from wherebase.errors import InvalidNumber, InvalidQuestion, InvalidShape
from wherebase.base.numbers import is_integer
from wherebase.base.order import fraction_steps
from wherebase.measure.measures import square_distance
from wherebase.shape.shapes import Shape
from wherebase.table.conditions import check_condition, truth_in
from wherebase.table.tables import MAX_SIZE, check_column, check_kind, check_table
from wherebase.table.terms import kind_of_term, value_of_term

MAX_ORDER = 4


def answer(table, condition, *, order=(), limit=None):
    """The tuple of the numbers of the rows that answer a question."""
    check_condition(table, condition)
    check_question(table, order, limit)
    rows = table.rows
    return told_rows(rows, [number for number in rows if truth_in(rows[number], condition)], order, limit)


def is_order(table, value):
    """Whether the value is an order of terms for the rows of a table."""
    check_table(table)
    if not isinstance(value, tuple) or len(value) > MAX_ORDER:
        return False
    return all([_is_part_of_order(table.kinds, part) for part in value])


def nearest(table, column, shape, count):
    """Pairs of a number and a square of a distance: those rows whose shapes are nearest to a shape."""
    check_table(table)
    check_column(table, column)
    if not isinstance(shape, Shape) or len(shape) > MAX_SIZE:
        raise InvalidShape("no shape that can stand in a table")
    _check_count(count)
    check_kind(table, column, "shape")
    shapes = [(number, row[column]) for number, row in table.rows.items() if row[column] is not None]
    found = [(number, square_distance(other, shape)) for number, other in shapes]
    pairs = [(number, square) for number, square in found if square is not None]
    steps = fraction_steps([square for _, square in pairs])
    ordered = sorted(list(zip(steps, pairs)))
    return tuple([pair for _, pair in ordered[:count]])


def check_question(table, order, limit):
    """Refuses what is no order of terms for the rows of a table, and what is no limit."""
    if not is_order(table, order):
        raise InvalidQuestion("no order of terms for the rows of the table")
    if limit is not None:
        _check_count(limit)


def told_rows(rows, numbers, order, limit):
    """The tuple of the numbers of some rows in an order, no more than the limit allows."""
    columns = [_ranks([value_of_term(rows[number], term) for number in numbers], way) for term, way in order]
    keys = [(*[ranks[index] for ranks in columns], number) for index, number in enumerate(numbers)]
    return tuple([key[-1] for key in sorted(keys)[:limit]])


def _is_part_of_order(kinds, value):
    """Whether the value is a pair of a term, of which the values have an order, and a way."""
    if not isinstance(value, tuple) or len(value) != 2:
        return False
    return kind_of_term(kinds, value[0]) in ("number", "text") and value[1] in ("up", "down")


def _check_count(value):
    if not is_integer(value) or value < 0:
        raise InvalidNumber(value)


def _ranks(values, way):
    """For each value of a term a pair that puts it in order; missing values come last for both ways."""
    known = [value for value in values if value is not None]
    if known and isinstance(known[0], str):
        steps = {text: step for step, text in enumerate(sorted(known))}
    else:
        steps = {fraction: step for fraction, step in zip(known, fraction_steps(known))}
    sign = 1 if way == "up" else -1
    return [(1, 0) if value is None else (0, sign * steps[value]) for value in values]
