"""The place of one point, without a drawing."""

from wherebase.base.geometry import lies_between, turn


def place_among(sides, pieces, points, point):
    """The place of a point in the shape with these sides of rings, pieces and lone points."""
    crossed = 0
    for one, two in sides:
        height, other_height = _height(one, point), _height(two, point)
        if height > 0 and other_height > 0 or height < 0 and other_height < 0:
            continue
        if lies_between(point, one, two):
            return "border"
        # a ray to the right; of the ends of a side only the lower one counts as crossed
        if (height > 0) != (other_height > 0) and (turn(one, two, point) > 0) == (other_height > 0):
            crossed += 1
    if crossed % 2 == 1:
        return "inside"
    return _place_on_lines(pieces, points, point)


def _place_on_lines(pieces, points, point):
    """The place of a point that does not lie in the body."""
    ending = len([piece for piece in pieces if point in piece])
    if ending % 2 == 1:
        return "border"
    if ending > 0 or point in points or any([lies_between(point, one, two) for one, two in pieces]):
        return "inside"
    return "outside"


def _height(other, point):
    """A number with the sign of the height of a point above another one."""
    return other[1] * point[2] - point[1] * other[2]
