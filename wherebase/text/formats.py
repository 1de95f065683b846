"""Strings that tell shapes and tables."""

from wherebase.errors import InvalidOperation, ParseError
from wherebase.shape.shapes import Shape, check_shapes
from wherebase.table.tables import check_table
from wherebase.text.told_shapes import ShapeWords, shape_words
from wherebase.text.told_tables import TableLines, table_lines


def write_shape(shape):
    """The string that tells the least form of a shape."""
    check_shapes(shape)
    return " ".join(shape_words(shape))


def write_table(table):
    """The string that tells a table."""
    check_table(table)
    return "\n".join(table_lines(table))


def read_shape(string):
    """The joint of what a string tells."""
    areas, pieces, points = _told_by(string, " ", ShapeWords())
    return Shape(areas, pieces, points)


def read_table(string):
    """The table that a string tells."""
    return _told_by(string, "\n", TableLines())


def _told_by(string, between, told):
    """What the parts of a string tell, that are taken one by one."""
    if not isinstance(string, str):
        raise InvalidOperation("no string")
    parts = string.split(between)
    for index, part in enumerate(parts):
        if not told.take(part):
            raise ParseError(index)
    if not told.is_whole():
        raise ParseError(len(parts))
    return told.outcome()
