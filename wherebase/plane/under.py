"""What lies next below a point, or next above it."""

from wherebase.base.geometry import cross_point, is_left, is_lower, upright, value_at


def half_below(web, point):
    """The half from left to right next below a point that lies on no edge, or None if there is none.

    Of edges that meet straight below the point, the steepest one that goes on to the right counts: the
    room above it is the one that reaches up to the point.
    """
    best = None
    for side, ruler in enumerate(web.rulers):
        left, right = web.spans[side]
        if is_left(point, left) or not is_left(point, right) or value_at(ruler, point) <= 0:
            continue
        if best is None or _is_above(ruler, web.rulers[best], point):
            best = side
    if best is None:
        return None
    chain = web.chains[best]
    index = 0
    while not is_left(point, web.spots[chain[index + 1]]):
        index += 1
    return web.half_from(chain[index], chain[index + 1])


def _is_above(ruler, other, point):
    """Whether one line is above another one straight below a point, or equal there and steeper."""
    # both lines lead to the right, so their second numbers are above 0
    height = -(ruler[0] * point[0] + ruler[2] * point[2]) * other[1]
    other_height = -(other[0] * point[0] + other[2] * point[2]) * ruler[1]
    if height != other_height:
        return height > other_height
    return -ruler[0] * other[1] > -other[0] * ruler[1]


def top_above(web, point):
    """The lowest point of an edge or a lone corner straight above a point, or None if there is none."""
    plumb = upright(point)
    found = [web.spots[spot] for spot in web.lone_rooms]
    found = [corner for corner in found if value_at(plumb, corner) == 0]
    for side, ruler in enumerate(web.rulers):
        left, right = web.spans[side]
        if is_left(left, right):
            if not is_left(point, left) and not is_left(right, point):
                found.append(cross_point(ruler, plumb))
        elif value_at(plumb, left) == 0:
            found.extend([left, right])
    best = None
    for other in found:
        if is_lower(point, other) and (best is None or is_lower(other, best)):
            best = other
    return best
