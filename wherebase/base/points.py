"""Points, directions and the straight pieces between points."""

from math import gcd

from wherebase.errors import InvalidNumber, InvalidOperation, InvalidPoint
from wherebase.base.geometry import cross_point, half_way, lies_between, line_through, lowest_point
from wherebase.base.geometry import shared_points, turn, way
from wherebase.base.numbers import is_integer, lowest_of
from wherebase.base.order import fraction_steps


def is_point(value):
    """Whether the value is a triple (x, y, w) of integers in lowest terms, w at least 1."""
    if not isinstance(value, tuple) or len(value) != 3:
        return False
    x, y, w = value
    if not is_integer(x) or not is_integer(y) or not is_integer(w):
        return False
    return w >= 1 and gcd(x, y, w) == 1


def is_side(value):
    """Whether the value is a pair of points, the lesser one first."""
    if not isinstance(value, tuple) or len(value) != 2:
        return False
    return is_point(value[0]) and is_point(value[1]) and value[0] < value[1]


def check_points(*values):
    """Refuses the first value that is no point."""
    for value in values:
        if not is_point(value):
            raise InvalidPoint("no point")


def point_of(x, y, w=1):
    """The point with the coordinates x / w and y / w."""
    for value in (x, y, w):
        if not is_integer(value):
            raise InvalidNumber(value)
    if w == 0:
        raise InvalidNumber(w)
    return lowest_point(x, y, w)


def turn_of(one, two, three):
    """1 if the way through three points turns counter-clockwise, -1 if clockwise, 0 if it is straight."""
    check_points(one, two, three)
    return turn(one, two, three)


def is_between(point, one, two):
    """Whether the point lies on the piece between the two others."""
    check_points(point, one, two)
    return lies_between(point, one, two)


def line_meet(one, two, three, four):
    """The point on the line through the first two points and on that through the last two, or None."""
    check_points(one, two, three, four)
    if one == two or three == four:
        raise InvalidOperation("equal points tell no line")
    return cross_point(line_through(one, two), line_through(three, four))


def pieces_meet(one, two, three, four):
    """The ends of what two pieces have in common, ascending."""
    check_points(one, two, three, four)
    if one == two:
        return (one,) if lies_between(one, three, four) else ()
    if three == four:
        return (three,) if lies_between(three, one, two) else ()
    found = shared_points((one, two), (three, four), line_through(one, two), line_through(three, four))
    return tuple(sorted(found))


def middle_of(one, two):
    """The point half way between two points."""
    check_points(one, two)
    return half_way(one, two)


def square_between(one, two):
    """The square of the distance of two points, a fraction."""
    check_points(one, two)
    return _square(one, two)


def sorted_round(centre, points):
    """The points, each once, counter-clockwise by their directions from the centre, nearer ones first."""
    check_points(centre)
    if not isinstance(points, tuple):
        raise InvalidPoint("no tuple of points")
    check_points(*points)
    if centre in points:
        raise InvalidOperation("the centre has no direction")
    # each point once: a dict keeps them apart
    different = list({point: True for point in points})
    turned = [_quarter_turned(centre, point) for point in different]
    slopes = fraction_steps([(dy, dx) for _, dx, dy in turned])
    squares = fraction_steps([_square(centre, point) for point in different])
    keys = sorted([(turned[k][0], slopes[k], squares[k], k) for k in range(len(different))])
    return tuple([different[key[3]] for key in keys])


def _square(one, two):
    dx, dy = way(one, two)
    return lowest_of(dx * dx + dy * dy, (one[2] * two[2]) ** 2)


def _quarter_turned(centre, point):
    """The quarter of a direction, and the direction turned back into the first quarter, where dx is above 0."""
    dx, dy = way(centre, point)
    quarter = 0
    while dx <= 0 or dy < 0:
        dx, dy = dy, -dx
        quarter += 1
    return (quarter, dx, dy)
