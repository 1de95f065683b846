"""Integers, names and fractions."""

from math import gcd, lcm

from wherebase.errors import InvalidNumber


def is_integer(value):
    """Whether the value is an integer; True and False are none."""
    return isinstance(value, int) and not isinstance(value, bool)


def is_name(value):
    """Whether the value is a string of one to twenty letters from a to z."""
    if not isinstance(value, str) or not 1 <= len(value) <= 20:
        return False
    return all(["a" <= letter <= "z" for letter in value])


def is_fraction(value):
    """Whether the value is a pair of integers in lowest terms, the second one at least 1."""
    if not isinstance(value, tuple) or len(value) != 2:
        return False
    top, bottom = value
    if not is_integer(top) or not is_integer(bottom):
        return False
    return bottom >= 1 and gcd(top, bottom) == 1


def lowest_of(top, bottom):
    """The fraction top / bottom."""
    if not is_integer(top):
        raise InvalidNumber(top)
    if not is_integer(bottom) or bottom == 0:
        raise InvalidNumber(bottom)
    return _lowest(top, bottom)


def plus(one, other):
    """The sum of two fractions."""
    _check_both(one, other)
    return _lowest(one[0] * other[1] + other[0] * one[1], one[1] * other[1])


def minus(one, other):
    """The first fraction less the second one."""
    _check_both(one, other)
    return _lowest(one[0] * other[1] - other[0] * one[1], one[1] * other[1])


def times(one, other):
    """The product of two fractions."""
    _check_both(one, other)
    return _lowest(one[0] * other[0], one[1] * other[1])


def is_less(one, other):
    """Whether the first fraction is less than the second one."""
    _check_both(one, other)
    return one[0] * other[1] < other[0] * one[1]


def whole_below(one):
    """The greatest integer that is at most the fraction."""
    _check(one)
    return one[0] // one[1]


def whole_above(one):
    """The least integer that is at least the fraction."""
    _check(one)
    return -(-one[0] // one[1])


def total_of(pairs):
    """The sum of the quotients of some pairs of integers, a fraction; the bottoms are at least 1."""
    shared = 1
    for _, bottom in pairs:
        shared = lcm(shared, bottom)
    return _lowest(sum([top * (shared // bottom) for top, bottom in pairs]), shared)


def _lowest(top, bottom):
    if bottom < 0:
        top, bottom = -top, -bottom
    shared = gcd(top, bottom)
    return (top // shared, bottom // shared)


def _check(value):
    if not is_fraction(value):
        raise InvalidNumber(value)


def _check_both(one, other):
    _check(one)
    _check(other)
