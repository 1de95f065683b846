"""Groups of rows: those that are alike, those that are linked, and single values for many rows."""

from wherebase.errors import InvalidNumber, InvalidOperation
from wherebase.base.numbers import total_of
from wherebase.measure.measures import are_near, area_of, hull
from wherebase.plan.plans import boxes_of
from wherebase.plan.windows import wider
from wherebase.plane.groups import Groups
from wherebase.shape.overlays import common, joint
from wherebase.table.tables import check_column, check_kind, check_table, compared
from wherebase.table.terms import as_fraction, is_square
from wherebase.tree.boxes import apart_word

_KINDS_FOR = {
    "known": ("number", "shape", "text"),
    "sum": ("number",),
    "least": ("number", "text"),
    "greatest": ("number", "text"),
    "areas": ("shape",),
    "joint": ("shape",),
    "hull": ("shape",),
    "common": ("shape",),
}


def groups(table, columns, numbers=None):
    """The groups of rows that are alike in some columns."""
    check_table(table)
    if not isinstance(columns, tuple):
        raise InvalidOperation("no tuple of columns")
    for column in columns:
        check_column(table, column)
    if numbers is not None:
        _check_numbers(table, numbers)
    rows = table.rows
    found = {}
    for number in sorted(set(rows if numbers is None else numbers)):
        key = tuple([compared(rows[number][column]) for column in columns])
        found.setdefault(key, []).append(number)
    return _told(found)


def summed(table, numbers, what, column=None):
    """One value for some rows, each counted once."""
    check_table(table)
    _check_numbers(table, numbers)
    if what == "count":
        return len(set(numbers))
    if not isinstance(what, str) or what not in _KINDS_FOR:
        raise InvalidOperation("no word for a value of many rows")
    check_column(table, column)
    kinds = _KINDS_FOR[what]
    check_kind(table, column, *kinds)
    rows = table.rows
    values = [rows[number][column] for number in sorted(set(numbers))]
    return _summed_of([value for value in values if value is not None], what)


def linked(table, column, square):
    """The groups of rows of which one can be reached from the other by steps that are short enough."""
    check_table(table)
    check_column(table, column)
    if not is_square(square):
        raise InvalidNumber(square)
    check_kind(table, column, "shape")
    rows = table.rows
    boxes = list(boxes_of(table, column).items())
    links = Groups(len(boxes))
    top, bottom = as_fraction(square)
    for one, (number, box) in enumerate(boxes):
        reached = wider(box, square)
        for other, (other_number, other_box) in enumerate(boxes[:one]):
            # rows that are linked already, or too far apart by their boxes, need not be measured
            if links.least(one) == links.least(other) or apart_word(reached, other_box) is not None:
                continue
            if are_near(rows[number][column], rows[other_number][column], top, bottom):
                links.unite(one, other)
    found = {}
    for index, (number, _) in enumerate(boxes):
        found.setdefault(links.least(index), []).append(number)
    return _told(found)


def _check_numbers(table, numbers):
    """Refuses what is no tuple of numbers of rows."""
    if not isinstance(numbers, tuple):
        raise InvalidOperation("no tuple of numbers")
    for number in numbers:
        if number not in table:
            raise InvalidNumber(number)


def _told(groups_found):
    """The groups that a dict holds, as tuples."""
    return tuple([tuple(group) for group in groups_found.values()])


def _summed_of(values, what):
    """The value that a word asks for, of values that are not missing."""
    if what == "known":
        return len(values)
    if what == "areas":
        return total_of([area_of(shape) for shape in values])
    if what in ("joint", "hull"):
        return joint(*values) if what == "joint" else hull(joint(*values))
    if not values:
        return None
    if what == "common":
        return common(*values)
    if what == "sum":
        return sum(values)
    return min(values) if what == "least" else max(values)
