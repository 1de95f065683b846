"""Terms: what they tell of the rows of a table."""

from wherebase.base.numbers import is_fraction, is_integer, is_name
from wherebase.measure.measures import area_of, square_distance
from wherebase.table.tables import kind_of_value


def kind_of_term(kinds, term):
    """The kind of a term for rows with columns of some kinds, or None if it is no term for them."""
    if not isinstance(term, tuple) or not term:
        return None
    word, *inner = term
    if (word, len(inner)) in (("area", 1), ("square", 2)):
        # a shape is told by a term without others within
        are_shapes = all([_kind_of_plain_term(kinds, one) == "shape" for one in inner])
        return "number" if are_shapes else None
    return _kind_of_plain_term(kinds, term)


def terms_within(term):
    """The tuple of the terms in a term."""
    return term[1:] if term[0] in ("area", "square") else ()


def value_of_term(row, term):
    """The value of a term for a row: None if it is missing, a number as a fraction, otherwise a text or a shape."""
    word = term[0]
    if word == "column":
        return as_fraction(row[term[1]])
    if word == "value":
        return as_fraction(term[1])
    shapes = [value_of_term(row, inner) for inner in term[1:]]
    if None in shapes:
        return None
    return area_of(shapes[0]) if word == "area" else square_distance(shapes[0], shapes[1])


def is_square(value):
    """Whether the value is an integer or a fraction of at least 0."""
    if is_fraction(value):
        return value[0] >= 0
    return is_integer(value) and value >= 0


def as_fraction(value):
    """An integer as a fraction; any other value as it is."""
    return (value, 1) if is_integer(value) else value


def _kind_of_plain_term(kinds, term):
    """The kind of a term without terms within, or None for any other value."""
    if not isinstance(term, tuple) or len(term) != 2:
        return None
    word, told = term
    if word == "column":
        return kinds.get(told) if is_name(told) else None
    if word == "value":
        return "number" if is_fraction(told) else kind_of_value(told)
    return None
