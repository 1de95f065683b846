"""Overlays: shapes that are put together of the cells of other shapes."""

from wherebase.errors import InvalidShape
from wherebase.base.points import is_point
from wherebase.plane.faces import chosen_point
from wherebase.shape.shapes import check_drawn, check_shapes, closure_of, mark_points, sheet_of


def joint(*shapes):
    """The union of any number of shapes."""
    sheet = sheet_of(*shapes)
    return closure_of(sheet, [[bits != 0 for bits in row] for row in sheet.taken()])


def common(*shapes):
    """The intersection of one or more shapes."""
    if not shapes:
        raise InvalidShape("no shapes have everything in common")
    sheet = sheet_of(*shapes)
    every = (1 << len(shapes)) - 1
    return closure_of(sheet, [[bits == every for bits in row] for row in sheet.taken()])


def less(shape, *others):
    """The closure of the points of a shape that lie in none of the others."""
    sheet = sheet_of(shape, *others)
    return closure_of(sheet, [[bits == 1 for bits in row] for row in sheet.taken()])


def either(shape, other_shape):
    """The joint of each of two shapes less the other one."""
    sheet = sheet_of(shape, other_shape)
    return closure_of(sheet, [[bits in (1, 2) for bits in row] for row in sheet.taken()])


def cut_up(shape, other_shape):
    """The triple of the one shape less the other one, the common part, and the other one less the one."""
    sheet = sheet_of(shape, other_shape)
    rows = sheet.taken()
    return tuple([closure_of(sheet, [[bits == told for bits in row] for row in rows]) for told in (1, 3, 2)])


def covers(shape, *others):
    """Whether a shape lies in the joint of the others."""
    rows = sheet_of(shape, *others).taken()
    return not any([1 in row for row in rows])


def open_point(shape, *others):
    """Any point of a shape that lies in none of the others, or None."""
    sheet = sheet_of(shape, *others)
    return chosen_point(sheet.web, [[bits == 1 for bits in row] for row in sheet.taken()])


def is_open_point(value, shape, *others):
    """Whether the value is a point of a shape that lies in none of the others, or None if there is none."""
    check_drawn(shape, *others)
    if value is None:
        return covers(shape, *others)
    return is_point(value) and value in shape and not any([value in other for other in others])


def greatest(shape):
    """The greatest absolute value of an integer in the least form of a shape, 0 if it is empty."""
    check_shapes(shape)
    return max([abs(number) for mark in mark_points(shape) for number in mark], default=0)
