"""Words: integers, points and texts as strings without blanks."""

from math import gcd

from wherebase.errors import TooMany
from wherebase.base.geometry import lowest_point
from wherebase.base.numbers import lowest_of

MAX_DIGITS = 1000


def integer_word(number):
    """The word of an integer."""
    if abs(number) >= int("1" + "0" * MAX_DIGITS):
        raise TooMany(MAX_DIGITS)
    return str(number)


def integer_of(word):
    """The integer that a word tells, or None."""
    digits = word[1:] if word.startswith("-") else word
    if not 1 <= len(digits) <= MAX_DIGITS or not all(["0" <= digit <= "9" for digit in digits]):
        return None
    if digits.startswith("0") and word != "0":
        return None
    return int(word)


def point_word(point):
    """The word of a point."""
    x, y, w = point
    return f"{_coordinate_word(x, w)},{_coordinate_word(y, w)}"


def told_point_of(word):
    """The point that a word tells, or None."""
    across, _, up = word.partition(",")
    x, y = _coordinate_of(across), _coordinate_of(up)
    if x is None or y is None:
        return None
    return lowest_point(x[0] * y[1], y[0] * x[1], x[1] * y[1])


def text_word(text):
    """The word of a text."""
    marked = text.replace("\\", "\\\\").replace(" ", "\\_")
    return "=" + marked


def text_of(word):
    """The text that a word tells, of any length, or None."""
    signs, is_marked = [], False
    for sign in word[1:]:
        if is_marked:
            if sign not in ("_", "\\"):
                return None
            signs.append(" " if sign == "_" else sign)
            is_marked = False
        elif sign == "\\":
            is_marked = True
        elif "!" <= sign <= "~":
            signs.append(sign)
        else:
            return None
    if not word.startswith("=") or is_marked:
        return None
    return "".join(signs)


def _coordinate_word(top, bottom):
    """The word of a coordinate."""
    top, bottom = lowest_of(top, bottom)
    if bottom == 1:
        return integer_word(top)
    return f"{integer_word(top)}/{integer_word(bottom)}"


def _coordinate_of(word):
    """The fraction that a coordinate tells, or None."""
    above, slash, below = word.partition("/")
    top = integer_of(above)
    if slash == "" or top is None:
        return None if top is None else (top, 1)
    bottom = integer_of(below)
    if bottom is None or bottom < 2 or gcd(top, bottom) > 1:
        return None
    return (top, bottom)
