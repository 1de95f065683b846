"""Conditions about the rows of tables, and the terms in them."""

from wherebase.errors import InvalidCondition, TooMany
from wherebase.base.numbers import is_less
from wherebase.measure.measures import are_near
from wherebase.meet.meets import RELATIONS, is_related
from wherebase.table.tables import check_table
from wherebase.table.terms import as_fraction, is_square, kind_of_term, terms_within, value_of_term

MAX_PARTS = 60
MAX_DEPTH = 8
_OPPOSITES = {"and": "or", "or": "and"}


def is_term(table, value):
    """Whether the value is a term for the rows of a table."""
    check_table(table)
    return kind_of_term(table.kinds, value) is not None


def is_condition(table, value):
    """Whether the value is a condition about the rows of a table."""
    check_table(table)
    kinds = table.kinds
    count = 0
    waiting = [(value, 1)]
    while waiting:
        condition, depth = waiting.pop()
        if not _has_form(kinds, condition):
            return False
        terms, inner = _terms_of(condition)
        count += 1 + len(terms) + len(inner)
        deepest = depth + (2 if inner else 1 if terms else 0)
        # so the walk ends soon, however much stands in the value
        if count > MAX_PARTS or deepest > MAX_DEPTH:
            return False
        waiting.extend([(part, depth + 1) for part in _conditions_of(condition)])
    return True


def term_value(table, term, number):
    """The value of a term for a row: None if it is missing, a number as a fraction, otherwise a text or a shape."""
    if not is_term(table, term):
        raise InvalidCondition("no term for the rows of the table")
    return value_of_term(table.row(number), term)


def truth(table, condition, number):
    """True or False if a condition is so of a row, None if it is unknown."""
    check_condition(table, condition)
    return truth_in(table.row(number), condition)


def truths(table, condition):
    """The dict from the numbers of all rows of a table to the truths of a condition."""
    check_condition(table, condition)
    return {number: truth_in(row, condition) for number, row in table.rows.items()}


def moved_inwards(table, condition):
    """The condition with the same truths in which "not" stands only right at conditions without others within."""
    check_condition(table, condition)
    moved = _moved(condition, False)
    if _part_count(moved) > MAX_PARTS:
        raise TooMany(MAX_PARTS)
    return moved


def check_condition(table, value):
    """Refuses a value that is no condition about the rows of a table."""
    if not is_condition(table, value):
        raise InvalidCondition("no condition about the rows of the table")


def _has_form(kinds, value):
    """Whether a value is a condition, but for the conditions within it and for its size."""
    if not isinstance(value, tuple) or not value:
        return False
    word = value[0]
    if word in ("not", "and", "or"):
        return word != "not" or len(value) == 2
    found = [kind_of_term(kinds, term) for term in value[1:3]]
    if word == "missing":
        return len(value) == 2 and found[0] is not None
    if word == "near":
        return len(value) == 4 and found == ["shape", "shape"] and is_square(value[3])
    if len(value) != 3:
        return False
    if word == "same":
        return found[0] is not None and found[0] == found[1]
    if word == "less":
        return found in (["number", "number"], ["text", "text"])
    return word in RELATIONS and found == ["shape", "shape"]


def _conditions_of(condition):
    """The conditions that stand right in a condition."""
    return condition[1:] if condition[0] in ("not", "and", "or") else ()


def _terms_of(condition):
    """The terms that stand right in a condition, and those that stand in these."""
    if condition[0] in ("not", "and", "or"):
        return [], []
    terms = list(condition[1:3])
    return terms, [inner for term in terms for inner in terms_within(term)]


def _part_count(condition):
    """How many terms and conditions a condition has, itself and those within."""
    terms, inner = _terms_of(condition)
    return 1 + len(terms) + len(inner) + sum([_part_count(part) for part in _conditions_of(condition)])


def truth_in(row, condition):
    """The truth of a condition of a row, for callers that have checked it."""
    word = condition[0]
    if word == "not":
        inner = truth_in(row, condition[1])
        return None if inner is None else not inner
    if word in ("and", "or"):
        found = [truth_in(row, part) for part in condition[1:]]
        # one condition that is true settles "or", one that is false settles "and"
        settling = word == "or"
        if settling in found:
            return settling
        return None if None in found else not settling
    values = [value_of_term(row, term) for term in condition[1:3]]
    if word == "missing":
        return values[0] is None
    if None in values:
        return None
    return is_true_of(condition, values[0], values[1])


def is_true_of(condition, one, other):
    """Whether a condition about two terms is true of their values; numbers are fractions only for "less"."""
    word = condition[0]
    if word == "same":
        return one == other
    if word == "less":
        return one < other if isinstance(one, str) else is_less(one, other)
    if word == "near":
        top, bottom = as_fraction(condition[3])
        return are_near(one, other, top, bottom)
    return is_related(one, other, word)


def _moved(condition, is_opposite):
    """A condition, or its opposite, with each "not" moved inwards."""
    word = condition[0]
    if word == "not":
        return _moved(condition[1], not is_opposite)
    if word in ("and", "or"):
        told = _OPPOSITES[word] if is_opposite else word
        return (told, *[_moved(part, is_opposite) for part in condition[1:]])
    return ("not", condition) if is_opposite else condition
