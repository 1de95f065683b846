"""Invertible maps of the plane, and the maps between shapes."""

from wherebase.errors import InvalidMap, InvalidNumber, InvalidOperation, InvalidPoint, TooMany
from wherebase.base.geometry import turn
from wherebase.base.numbers import is_integer, lowest_of
from wherebase.base.points import check_points, is_point
from wherebase.maps.affine import joined, least_numbers, led_form, led_point, numbers_by, turned_back
from wherebase.shape.shapes import check_shapes, mark_points, shape_of

# a search goes through all triples of marks
_MAX_MARKS = 12


class Map:
    """A map of the plane, kept in its least numbers."""

    def __init__(self, a, b, c, d, e, f, *, over=1):
        for number in (a, b, c, d, e, f):
            _check_integer(number)
        if not is_integer(over) or over < 1:
            raise InvalidNumber(over)
        if a * d == b * c:
            raise InvalidMap("no map leads all points back")
        self._numbers = least_numbers(a, b, c, d, e, f, over)

    @property
    def numbers(self):
        """The least numbers (a, b, c, d, e, f, v)."""
        return self._numbers

    @property
    def factor(self):
        """The fraction by which areas are multiplied, below 0 if the plane is turned over."""
        a, b, c, d, _, _, v = self._numbers
        return lowest_of(a * d - b * c, v * v)

    def __call__(self, shape):
        check_shapes(shape)
        return shape_of(led_form(self._numbers, shape.form))

    def led(self, point):
        """The point to which this map leads a point."""
        check_points(point)
        return led_point(self._numbers, point)

    def then(self, other):
        """The map that does first what this one does, and then what the other one does."""
        if not isinstance(other, Map):
            raise InvalidMap("no map")
        return _map_with(joined(self._numbers, other._numbers))

    def back(self):
        """The map that leads all points back."""
        return _map_with(turned_back(self._numbers))

    def __invert__(self):
        return _map_with(turned_back(self._numbers))

    def keeps_ratios(self):
        """Whether this map multiplies the squares of all distances by one fraction."""
        a, b, c, d, _, _, _ = self._numbers
        return a * b + c * d == 0 and a * a + c * c == b * b + d * d

    def __eq__(self, other):
        return isinstance(other, Map) and self._numbers == other._numbers

    def __str__(self):
        a, b, c, d, e, f, v = self._numbers
        return f"map {a} {b} {c} {d} {e} {f} over {v}"


def shift(x, y, *, over=1):
    """The map that adds x / over to first coordinates and y / over to second ones."""
    for number in (x, y):
        _check_integer(number)
    return Map(over, 0, 0, over, x, y, over=over)


def stretch(x, y, *, over=1):
    """The map that multiplies first coordinates by x / over and second ones by y / over."""
    for number in (x, y):
        _check_integer(number)
        if number == 0:
            raise InvalidNumber(number)
    return Map(x, 0, 0, y, 0, 0, over=over)


def same():
    """The map that leaves all points."""
    return Map(1, 0, 0, 1, 0, 0)


def quarter():
    """The map that leads x, y to -y, x."""
    return Map(0, -1, 1, 0, 0, 0)


def mirror():
    """The map that leads x, y to -x, y."""
    return Map(-1, 0, 0, 1, 0, 0)


def map_by(points, images):
    """The map that leads three points to three other ones."""
    for told in (points, images):
        if not isinstance(told, tuple) or len(told) != 3 or not all([is_point(point) for point in told]):
            raise InvalidPoint("no three points")
    if turn(*points) == 0 or turn(*images) == 0:
        raise InvalidOperation("three points on one line tell no map")
    return _map_with(numbers_by(points, images))


def marks(shape):
    """The corners of the rings, the ends of the pieces and the lone points of a shape, ascending."""
    check_shapes(shape)
    return mark_points(shape)


def match(shape, other_shape):
    """Any map that leads a shape to another one, or None."""
    check_shapes(shape, other_shape)
    for numbers in _leading_marks(shape, other_shape):
        if led_form(numbers, shape.form) == other_shape.form:
            return _map_with(numbers)
    return None


def is_match(shape, other_shape, value):
    """Whether the value is a map that leads a shape to another one."""
    check_shapes(shape, other_shape)
    return isinstance(value, Map) and led_form(value.numbers, shape.form) == other_shape.form


def symmetries(shape):
    """All maps that lead a shape to itself, by their least numbers."""
    check_shapes(shape)
    found = [numbers for numbers in _leading_marks(shape, shape) if led_form(numbers, shape.form) == shape.form]
    return tuple([_map_with(numbers) for numbers in sorted(found)])


def _check_integer(value):
    if not is_integer(value):
        raise InvalidNumber(value)


def _map_with(numbers):
    """The map with some least numbers."""
    a, b, c, d, e, f, v = numbers
    return Map(a, b, c, d, e, f, over=v)


def _leading_marks(shape, other_shape):
    """The least numbers of all maps that lead the marks of one shape to those of another one."""
    points, images = mark_points(shape), mark_points(other_shape)
    base = _triangle_of(points)
    if base is None:
        raise InvalidOperation("the marks lie on one line")
    if len(points) > _MAX_MARKS or len(images) > _MAX_MARKS:
        raise TooMany(_MAX_MARKS)
    if len(points) != len(images):
        return []
    triples = [(one, two, three) for one in images for two in images for three in images]
    found = [numbers_by(base, triple) for triple in triples if turn(*triple) != 0]
    return [numbers for numbers in found if all([led_point(numbers, point) in images for point in points])]


def _triangle_of(points):
    """Three of some ascending points that do not lie on one line, or None."""
    for point in points[2:]:
        if turn(points[0], points[1], point) != 0:
            return (points[0], points[1], point)
    return None
