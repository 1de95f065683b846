"""The least form of a union of closed cells of a web."""

from wherebase.plane.groups import Groups


def form_of(web, spots_in, ties_in, rooms_in):
    """The least form of the closure of some corners, edges and bounded rooms.

    Each argument behind the web is a list of truth values, one for each corner, edge or room.
    """
    threads = [ties_in[tie] and not rooms_in[web.rooms_left[2 * tie]] and not rooms_in[web.rooms_left[2 * tie + 1]]
               for tie in range(len(web.ties))]
    areas = sorted(list(_areas(web, _owners(web, rooms_in)).values()))
    pieces = pieces_of(web, [tie for tie in range(len(web.ties)) if threads[tie]])
    points = [spot for spot in range(len(web.spots)) if spots_in[spot] and _is_alone(web, spot, threads, rooms_in)]
    return (tuple([_in_points(web, rings) for rings in areas]), pieces, tuple([web.spots[spot] for spot in points]))


def room_areas(web):
    """A dict from each bounded room to the area that is its closure."""
    owners = []
    for half, room in enumerate(web.rooms_left):
        owners.append(room if room > 0 and web.rooms_left[half ^ 1] != room else -1)
    return {room: _in_points(web, rings) for room, rings in _areas(web, owners).items()}


def pieces_of(web, ties):
    """The pieces, ascending, of which some edges consist."""
    leaving = {}
    for tie in ties:
        for half in (2 * tie, 2 * tie + 1):
            leaving.setdefault(web.tail(half), []).append(half)
    knots = {spot: _is_knot(web, halves) for spot, halves in leaving.items()}
    found = []
    for spot in knots:
        if knots[spot]:
            for half in leaving[spot]:
                end = _straight_on(web, leaving, knots, half)
                if spot < end:
                    found.append((spot, end))
    return tuple([(web.spots[start], web.spots[end]) for start, end in sorted(found)])


def _in_points(web, rings):
    return tuple([tuple([web.spots[spot] for spot in ring]) for ring in rings])


def _areas(web, owners):
    """A dict from owners to their areas, each the tuple of its rings: tuples of corners.

    `owners` has for each half the owner of the area that it borders with its left side, -1 if it borders none.
    """
    found = {}
    seen = [False] * len(web.turns)
    for half in range(len(web.turns)):
        if owners[half] != -1 and not seen[half]:
            ring = _ring_from(web, owners, seen, half)
            is_hole = not _is_outer(web, ring)
            found.setdefault(owners[half], []).append((is_hole, _corners_of(web, ring)))
    return {owner: tuple([told for _, told in sorted(rings)]) for owner, rings in found.items()}


def _owners(web, rooms_in):
    """For each half the area that it borders with its left side, told by its least room, -1 if it borders none."""
    groups = Groups(web.room_count)
    for tie in range(len(web.ties)):
        left, right = web.rooms_left[2 * tie], web.rooms_left[2 * tie + 1]
        if rooms_in[left] and rooms_in[right]:
            groups.unite(left, right)
    owners = []
    for half in range(len(web.turns)):
        room = web.rooms_left[half]
        if rooms_in[room] and not rooms_in[web.rooms_left[half ^ 1]]:
            owners.append(groups.least(room))
        else:
            owners.append(-1)
    return owners


def _ring_from(web, owners, seen, first):
    """The halves of one ring.

    The next half is the first one counter-clockwise, so that the ring goes around one sector outside of
    the area: where the area touches itself, its rings part.
    """
    ring = []
    half = first
    while not seen[half]:
        seen[half] = True
        ring.append(half)
        leaving = web.leaving[web.head(half)]
        place = leaving.index(half ^ 1)
        place = (place + 1) % len(leaving)
        while owners[leaving[place]] != owners[first]:
            place = (place + 1) % len(leaving)
        half = leaving[place]
    return ring


def _is_outer(web, ring):
    """Whether a ring goes counter-clockwise, told by its turn at its leftmost corner."""
    _, index = min([(web.steps[web.tail(half)], index) for index, half in enumerate(ring)])
    return web.turns[ring[index]] < web.turns[ring[index - 1] ^ 1]


def _corners_of(web, ring):
    """The corners at which a ring bends, from the least one on."""
    bends = [web.tail(half) for index, half in enumerate(ring) if web.turns[half] != web.turns[ring[index - 1]]]
    first = bends.index(min(bends))
    return tuple(bends[first:] + bends[:first])


def _is_knot(web, halves):
    """Whether lines that leave a corner make a knot there."""
    return len(halves) != 2 or abs(web.turns[halves[0]] - web.turns[halves[1]]) != web.half_turn


def _straight_on(web, leaving, knots, half):
    """The knot to which a half leads straight."""
    end = web.head(half)
    while not knots[end]:
        one, other = leaving[end]
        half = other if one == half ^ 1 else one
        end = web.head(half)
    return end


def _is_alone(web, spot, threads, rooms_in):
    """Whether no line and no room that is taken reaches a corner."""
    if rooms_in[web.room_around(spot)]:
        return False
    return not any([threads[half // 2] or rooms_in[web.rooms_left[half]] for half in web.leaving[spot]])
