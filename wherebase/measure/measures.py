"""Measures of shapes: areas, distances, hulls, middles and what is enclosed."""

from wherebase.errors import InvalidNumber, InvalidOperation
from wherebase.base.geometry import cross_point, half_way, lies_between, line_through, lowest_point, upright, value_at
from wherebase.base.numbers import is_integer, lowest_of, total_of
from wherebase.base.order import fraction_steps
from wherebase.base.points import is_point, square_between
from wherebase.measure.distances import nearest_points
from wherebase.measure.hulls import hull_form
from wherebase.plane.forms import room_areas
from wherebase.shape.places import place_among
from wherebase.shape.shapes import check_shapes, mark_points, parts, shape_of, shapes_of, sheet_of


def area_of(shape):
    """The area of the body of a shape, a fraction."""
    check_shapes(shape)
    return total_of([(_doubled(side), 2 * side[0][2] * side[1][2]) for side in shape.sides])


def bounds(shape):
    """The fractions (least x, least y, greatest x, greatest y) of a shape, or None if it is empty."""
    check_shapes(shape)
    marks = mark_points(shape)
    if not marks:
        return None
    left, right = _ends_of([lowest_of(x, w) for x, _, w in marks])
    bottom, top = _ends_of([lowest_of(y, w) for _, y, w in marks])
    return (left, bottom, right, top)


def square_distance(shape, other_shape):
    """The least square of a distance of points of two shapes, a fraction, or None if one is empty."""
    pair = nearest_pair(shape, other_shape)
    if pair is None:
        return None
    return square_between(pair[0], pair[1])


def nearest_pair(shape, other_shape):
    """Any pair of points of two shapes that are as near as can be, or None if one is empty."""
    sheet = sheet_of(shape, other_shape)
    if not shape or not other_shape:
        return None
    for spot, (inside, border) in enumerate(sheet.spot_bits):
        # a common part that is not empty has a corner
        if inside | border == 3:
            return (sheet.web.spots[spot], sheet.web.spots[spot])
    return nearest_points(shape, other_shape)


def is_nearest_pair(shape, other_shape, value):
    """Whether the value is a pair of points of two shapes that are as near as can be."""
    square = square_distance(shape, other_shape)
    if not isinstance(value, tuple) or len(value) != 2:
        return False
    return value[0] in shape and value[1] in other_shape and square_between(value[0], value[1]) == square


def are_near(shape, other_shape, numerator, denominator):
    """Whether the least square of a distance of two shapes is at most a fraction; False if one is empty."""
    check_shapes(shape, other_shape)
    if not is_integer(numerator) or numerator < 0:
        raise InvalidNumber(numerator)
    if not is_integer(denominator) or denominator < 1:
        raise InvalidNumber(denominator)
    square = square_distance(shape, other_shape)
    return square is not None and square[0] * denominator <= numerator * square[1]


def hull(shape):
    """The least convex shape that holds a shape."""
    check_shapes(shape)
    return shape_of(hull_form(mark_points(shape)))


def is_convex(shape):
    """Whether a shape is its hull."""
    return hull(shape) == shape


def middle(shape):
    """The point with the means of the coordinates of all points of the body, by area."""
    check_shapes(shape)
    if not shape.areas:
        raise InvalidOperation("the shape has no body")
    across, up, area = [], [], []
    for one, two in shape.sides:
        shared = one[2] * two[2]
        doubled = _doubled((one, two))
        area.append((doubled, shared))
        across.append((doubled * (one[0] * two[2] + two[0] * one[2]), shared * shared))
        up.append((doubled * (one[1] * two[2] + two[1] * one[2]), shared * shared))
    (x, x_bottom), (y, y_bottom), (many, bottom) = total_of(across), total_of(up), total_of(area)
    # a third, since the middle of a triangle is the mean of its three corners
    return lowest_point(x * y_bottom * bottom, y * x_bottom * bottom, 3 * x_bottom * y_bottom * many)


def some_point(shape):
    """Any point that is deep in a shape, or None if it is empty."""
    check_shapes(shape)
    if shape.areas:
        return _point_within(shape.sides)
    if shape.pieces:
        one, two = shape.pieces[0]
        return half_way(one, two)
    if shape.points:
        return shape.points[0]
    return None


def is_some_point(shape, value):
    """Whether the value is a point that is deep in a shape."""
    check_shapes(shape)
    if not is_point(value):
        return False
    if shape.areas:
        return place_among(shape.sides, (), (), value) == "inside"
    if shape.pieces:
        on_pieces = any([lies_between(value, one, two) for one, two in shape.pieces])
        return on_pieces and not any([value in piece for piece in shape.pieces])
    return value in shape.points


def enclosed(shape):
    """The closures of the bounded connected parts of what is outside of a shape, by their least forms."""
    sheet = sheet_of(shape)
    areas = room_areas(sheet.web)
    return shapes_of([((areas[room],), (), ()) for room in _rooms_outside(sheet)])


def euler(shape):
    """The number of the connected parts of a shape less that of what it encloses."""
    return len(parts(shape)) - len(_rooms_outside(sheet_of(shape)))


def _doubled(side):
    """Twice the area at the left of a side, as seen from the origin, times the bottoms of both points."""
    (x, y, _), (other_x, other_y, _) = side
    return x * other_y - other_x * y


def _ends_of(fractions):
    """The least and the greatest one of some fractions."""
    ordered = sorted(list(zip(fraction_steps(fractions), fractions)))
    return ordered[0][1], ordered[-1][1]


def _rooms_outside(sheet):
    """The bounded rooms of the sheet of one shape that are outside of it."""
    return [room for room in range(1, sheet.web.room_count) if sheet.room_bits[room] == (0, 0)]


def _point_within(sides):
    """A point of the topological inside of the body with these sides of rings."""
    found = [lowest_of(x, w) for (x, _, w), _ in sides]
    ordered = sorted(list({step: fraction for step, fraction in zip(fraction_steps(found), found)}.items()))
    # between the two leftmost corners the sides lie one above the other, and the body above the lowest one
    (x, w), (other_x, other_w) = ordered[0][1], ordered[1][1]
    plumb = upright((x * other_w + other_x * w, 0, 2 * w * other_w))
    crossed = []
    for one, two in sides:
        start, end = value_at(plumb, one), value_at(plumb, two)
        if (start > 0) != (end > 0):
            crossed.append(cross_point(line_through(one, two), plumb))
    heights = fraction_steps([(y, w) for _, y, w in crossed])
    ordered = [point for _, point in sorted(list(zip(heights, crossed)))]
    return half_way(ordered[0], ordered[1])
