"""Threads: the parts of lines between their forks, and the ways by which they are told."""

from wherebase.base.points import is_point


def is_way(value):
    """Whether the value is a tuple of two or more points."""
    return isinstance(value, tuple) and len(value) > 1 and all([is_point(point) for point in value])


def neighbours_of(pieces):
    """A dict from the ends of some pieces, ascending, to the other ends of the pieces that end there."""
    found = {}
    for one, two in pieces:
        found.setdefault(one, []).append(two)
        found.setdefault(two, []).append(one)
    return {knot: found[knot] for knot in sorted(list(found))}


def threads_of(pieces):
    """The ascending threads of the lines with these pieces."""
    links = neighbours_of(pieces)
    found = []
    passed = {}
    for knot, ends in links.items():
        if len(ends) != 2:
            for end in ends:
                if (knot, end) not in passed:
                    found.append(_thread_from(links, passed, knot, end))
    # what is left goes through no fork; the first knot of it that is met is its least one
    for knot, ends in links.items():
        if (knot, ends[0]) not in passed:
            found.append(_thread_from(links, passed, knot, ends[0]))
    return tuple(sorted([min(thread, thread[::-1]) for thread in found]))


def _thread_from(links, passed, knot, end):
    """The knots from one knot on, by way of a neighbour, to the next fork or back."""
    thread = [knot, end]
    _pass(passed, knot, end)
    while len(links[end]) == 2 and end != thread[0]:
        one, other = links[end]
        following = other if one == knot else one
        knot, end = end, following
        thread.append(end)
        _pass(passed, knot, end)
    return tuple(thread)


def _pass(passed, knot, end):
    passed[(knot, end)] = True
    passed[(end, knot)] = True
