"""Trails: strokes that pass each piece once."""

from wherebase.net.threads import neighbours_of


def trail_count(pieces):
    """The least number of strokes that pass each of some pieces once."""
    links = neighbours_of(pieces)
    count = 0
    seen = {}
    for first in links:
        if first not in seen:
            part = _part_from(links, seen, first)
            count += max(1, len([knot for knot in part if len(links[knot]) % 2 == 1]) // 2)
    return count


def trails_of(pieces):
    """As few strokes as can be that pass each of some pieces once."""
    links = neighbours_of(pieces)
    knots = list(links)
    begun = []
    for knot in knots:
        # a walk from an odd knot ends at another one
        if len(links[knot]) % 2 == 1:
            begun.append(_walk(links, knot))
    trails = [_with_loops(links, trail) for trail in begun]
    for knot in knots:
        if links[knot]:
            trails.append(_with_loops(links, _walk(links, knot)))
    return tuple(trails)


def _part_from(links, seen, first):
    """All knots that are connected with a knot that was not seen."""
    seen[first] = True
    part = [first]
    waiting = [first]
    while waiting:
        for end in links[waiting.pop()]:
            if end not in seen:
                seen[end] = True
                part.append(end)
                waiting.append(end)
    return part


def _walk(links, knot):
    """A trail from a knot on, as far as it goes; the links that it passes are taken away."""
    trail = [knot]
    while links[knot]:
        end = links[knot].pop()
        links[end].remove(knot)
        knot = end
        trail.append(knot)
    return trail


def _with_loops(links, trail):
    """A trail with walks put in where links are left, of which none leads to an end but its own beginning."""
    told = []
    waiting = trail[::-1]
    while waiting:
        knot = waiting.pop()
        if links[knot]:
            loop = _walk(links, knot)
            waiting.extend(loop[::-1])
        else:
            told.append(knot)
    return tuple(told)
