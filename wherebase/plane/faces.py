"""The faces of a web as drawings tell them, and points within them."""

from wherebase.base.geometry import cross_point, half_way, is_left, lies_between, line_through, upright
from wherebase.plane.under import top_above


def faces_of(web):
    """The rooms in the order of the faces, and for each face the ascending tuple of its walks."""
    rows = [[] for _ in range(web.room_count)]
    for walk, halves in enumerate(web.walks):
        rows[web.room_at[walk]].append(_least_turned([web.tail(half) for half in halves]))
    for spot, room in web.lone_rooms.items():
        rows[room].append((spot,))
    # corners are ordered as their indices are, so indices put walks and faces in order
    told = [tuple(sorted(row)) for row in rows]
    rooms = [0, *[room for _, room in sorted([(told[room], room) for room in range(1, web.room_count)])]]
    return rooms, tuple([_in_points(web, told[room]) for room in rooms])


def _in_points(web, walks):
    return tuple([tuple([web.spots[spot] for spot in walk]) for walk in walks])


def _least_turned(walk):
    """The least tuple that tells a closed walk from any of its corners on."""
    least = min(walk)
    return tuple(min([walk[index:] + walk[:index] for index in range(len(walk)) if walk[index] == least]))


def tie_with(web, point):
    """The edge on which a point lies that is no corner, or None."""
    for chain, (left, right) in zip(web.chains, web.spans):
        if lies_between(point, left, right):
            for start, end in zip(chain, chain[1:]):
                if lies_between(point, web.spots[start], web.spots[end]):
                    return web.tie_at[(min(start, end), max(start, end))]
    return None


def point_in_room(web, room):
    """A point of a room."""
    if room == 0:
        return (_beyond(web), 0, 1)
    start, end = _base_of(web, room)
    point = half_way(start, end)
    return half_way(point, top_above(web, point))


def chosen_point(web, chosen):
    """A point of a chosen cell of the greatest dimension, or None if no cell is chosen.

    Three lists of truth values choose cells: for the corners, the edges and the rooms.
    """
    spots_in, ties_in, rooms_in = chosen
    if True in rooms_in:
        return point_in_room(web, rooms_in.index(True))
    if True in ties_in:
        start, end = web.ties[ties_in.index(True)]
        return half_way(web.spots[start], web.spots[end])
    if True in spots_in:
        return web.spots[spots_in.index(True)]
    return None


def triangle_in_room(web, room):
    """Three corners of a triangle whose inside lies in a room."""
    if room == 0:
        beyond = _beyond(web)
        return ((beyond, 0, 1), (beyond + 1, 0, 1), (beyond, 1, 1))
    start, end = _base_of(web, room)
    point = half_way(start, end)
    # between here and the next corner to the right nothing lies between base and top
    nearest = end
    for spot in web.spots:
        if is_left(point, spot) and is_left(spot, nearest):
            nearest = spot
    return (point, cross_point(line_through(start, end), upright(nearest)), top_above(web, point))


def _base_of(web, room):
    """The ends of an edge, from left to right, with a bounded room above it."""
    for half in web.borders[room]:
        start, end = web.spots[web.tail(half)], web.spots[web.head(half)]
        if is_left(start, end):
            return start, end
    return None


def _beyond(web):
    """An integer greater than all first coordinates."""
    return max([x // w + 1 for x, y, w in web.spots], default=0)
