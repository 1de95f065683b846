"""Windows: where the shapes of rows must lie of which a condition is true, or false."""

from math import isqrt

from wherebase.base.numbers import whole_above
from wherebase.table.conditions import check_condition
from wherebase.table.tables import check_column, check_kind
from wherebase.table.terms import as_fraction
from wherebase.tree.boxes import box_around, box_of


def window(table, condition, column):
    """The pair of the window and the counter window of a condition for a column."""
    check_condition(table, condition)
    check_column(table, column)
    check_kind(table, column, "shape")
    return windows_of(condition, column)


def windows_of(condition, column):
    """The pair of the window and the counter window, for callers that have checked what is told."""
    word = condition[0]
    if word == "not":
        found, counter = windows_of(condition[1], column)
        return (counter, found)
    if word in ("and", "or"):
        pairs = [windows_of(part, column) for part in condition[1:]]
        found, counters = [pair[0] for pair in pairs], [pair[1] for pair in pairs]
        if word == "and":
            return (_least_of(found), _around(counters))
        return (_around(found), _least_of(counters))
    if word == "missing":
        return ("none" if condition[1] == ("column", column) else "all", "all")
    return _windows_of_two(condition, ("column", column))


def wider(box, square):
    """A box made wider by the least integer of at least 0 whose square is at least a number."""
    least = whole_above(as_fraction(square))
    more = isqrt(least - 1) + 1 if least > 0 else 0
    left, bottom, right, top = box
    return (left - more, bottom - more, right + more, top + more)


def _windows_of_two(condition, own):
    """The windows of a condition about two terms for the column that one of them, its own term, tells."""
    word, one, other = condition[:3]
    if own not in (one, other) or "value" not in (one[0], other[0]):
        return ("all", "all")
    is_first = one == own
    box = box_of(other[1] if is_first else one[1])
    if word == "apart":
        return ("all", "none" if box is None else box)
    if word == "near":
        return ("none" if box is None else wider(box, condition[3]), "all")
    if box is not None:
        return (box, "all")
    # each shape holds the empty shape, and none but this one lies in it
    return ("all" if word == ("holds" if is_first else "within") else "none", "all")


def _least_of(windows):
    """The window of what must meet all of some windows."""
    if "none" in windows:
        return "none"
    boxes = sorted([(_area_of(box), box) for box in windows if box != "all"])
    return boxes[0][1] if boxes else "all"


def _around(windows):
    """The window of what meets one of some windows."""
    if "all" in windows:
        return "all"
    boxes = [box for box in windows if box != "none"]
    return box_around(boxes) if boxes else "none"


def _area_of(box):
    left, bottom, right, top = box
    return (right - left) * (top - bottom)
