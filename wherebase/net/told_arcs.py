"""Told arcs: ways with the names of the shapes at their left and right sides."""

from wherebase.base.numbers import is_name
from wherebase.net.threads import is_way


def is_bent_way(value):
    """Whether the value is a tuple of two or more points, two neighbours never the same."""
    return is_way(value) and all([one != two for one, two in zip(value, value[1:])])


def are_told_arcs(value):
    """Whether the value is told arcs."""
    return isinstance(value, tuple) and all([_is_told_arc(arc) for arc in value])


def told_sides(arcs):
    """The sides of told arcs, each in the direction of its way."""
    return [side for way, _, _ in arcs for side in zip(way, way[1:])]


def names_of_rooms(web, arcs):
    """A list that has for each room of the web of told arcs a dict of the tuples of names that are told for it."""
    told = [{} for _ in range(web.room_count)]
    for way, left, right in arcs:
        for one, two in zip(way, way[1:]):
            half = web.half_from(web.spot_at[one], web.spot_at[two])
            told[web.rooms_left[half]][left] = True
            told[web.rooms_left[half ^ 1]][right] = True
    return told


def flaws_in(web, arcs):
    """The ascending tuple of the words for what is wrong with told arcs, whose sides make the web."""
    # a side that meets another one is cut by it, or one edge lies on both
    if any([len(chain) > 2 for chain in web.chains]) or any([len(cover) > 1 for cover in web.covering]):
        return ("meets",)
    told = names_of_rooms(web, arcs)
    flaws = []
    if any([len(names) > 1 for names in told]):
        flaws.append("faces")
    if any([names != () for names in told[0]]):
        flaws.append("outside")
    return tuple(flaws)


def _is_told_arc(value):
    if not isinstance(value, tuple) or len(value) != 3:
        return False
    way, left, right = value
    return is_bent_way(way) and _are_names(left) and _are_names(right) and left != right


def _are_names(value):
    """Whether the value is an ascending tuple of names."""
    if not isinstance(value, tuple) or not all([is_name(name) for name in value]):
        return False
    return all([one < other for one, other in zip(value, value[1:])])
