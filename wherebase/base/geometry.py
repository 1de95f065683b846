"""Points and lines as triples of integers, for callers that have checked them.

A line is a triple (a, b, c): the point (x, y, w) lies on it if a * x + b * y + c * w is 0. The sign of
this number tells the side of the line on which a point lies, because w is never below 1.
"""

from math import gcd


def lowest_point(x, y, w):
    """The point with the coordinates x / w and y / w; w is not 0."""
    shared = gcd(x, y, w)
    if w < 0:
        shared = -shared
    return (x // shared, y // shared, w // shared)


def crossed(one, two):
    """The line through two points, with a common divisor of its numbers left in."""
    return (one[1] * two[2] - one[2] * two[1], one[2] * two[0] - one[0] * two[2], one[0] * two[1] - one[1] * two[0])


def line_through(one, two):
    """The line through two points, greater than 0 at the left of the way from the first to the second one."""
    a, b, c = crossed(one, two)
    shared = gcd(a, b, c)
    return (a // shared, b // shared, c // shared)


def upright(point):
    """The line that goes straight up and down through a point."""
    return (point[2], 0, -point[0])


def value_at(ruler, point):
    """A number with the sign of the side of a line on which a point lies, 0 on the line."""
    return ruler[0] * point[0] + ruler[1] * point[1] + ruler[2] * point[2]


def cross_point(ruler, other):
    """The point on both lines, or None if they are parallel or the same."""
    w = ruler[0] * other[1] - ruler[1] * other[0]
    if w == 0:
        return None
    x = ruler[1] * other[2] - ruler[2] * other[1]
    y = ruler[2] * other[0] - ruler[0] * other[2]
    return lowest_point(x, y, w)


def sign_of(number):
    """1, 0 or -1 for a number above, at or below 0."""
    if number > 0:
        return 1
    if number < 0:
        return -1
    return 0


def turn(one, two, three):
    """1 if the way through three points turns counter-clockwise, -1 if clockwise, 0 if it is straight."""
    return sign_of(value_at(crossed(one, two), three))


def way(start, end):
    """The direction from one point to another one: (dx, dy), both times the same number above 0."""
    return (end[0] * start[2] - start[0] * end[2], end[1] * start[2] - start[1] * end[2])


def lies_between(point, one, two):
    """Whether a point lies on the piece between two points, which can be equal."""
    if turn(one, two, point) != 0:
        return False
    dx, dy = way(point, one)
    other_dx, other_dy = way(point, two)
    return dx * other_dx + dy * other_dy <= 0


def half_way(one, two):
    """The point half way between two points."""
    x = one[0] * two[2] + two[0] * one[2]
    y = one[1] * two[2] + two[1] * one[2]
    return lowest_point(x, y, 2 * one[2] * two[2])


def is_left(one, two):
    """Whether the first coordinate of a point is less than that of another one."""
    return one[0] * two[2] < two[0] * one[2]


def is_lower(one, two):
    """Whether the second coordinate of a point is less than that of another one."""
    return one[1] * two[2] < two[1] * one[2]


def shared_points(one, two, ruler, other):
    """The ends of what two sides, on the lines `ruler` and `other`, have in common."""
    start, end = value_at(ruler, two[0]), value_at(ruler, two[1])
    if start > 0 and end > 0 or start < 0 and end < 0:
        return []
    if start == 0 and end == 0:
        found = [point for point in two if lies_between(point, one[0], one[1])]
        return found + [point for point in one if point not in found and lies_between(point, two[0], two[1])]
    first, last = value_at(other, one[0]), value_at(other, one[1])
    if first > 0 and last > 0 or first < 0 and last < 0:
        return []
    for value, point in ((start, two[0]), (end, two[1]), (first, one[0]), (last, one[1])):
        if value == 0:
            return [point]
    return [cross_point(ruler, other)]
