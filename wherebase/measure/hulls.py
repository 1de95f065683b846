"""The least convex set that holds some points."""

from wherebase.base.geometry import turn
from wherebase.base.order import steps_of


def hull_form(points):
    """The least form of the hull of some different points."""
    ordered = [point for _, point in sorted(list(zip(steps_of(points), points)))]
    if len(ordered) < 2:
        return ((), (), tuple(ordered))
    lower, upper = _chain(ordered), _chain(ordered[::-1])
    if len(lower) == 2 and len(upper) == 2:
        return ((), ((min(lower), max(lower)),), ())
    ring = lower[:-1] + upper[:-1]
    first = ring.index(min(ring))
    return (((tuple(ring[first:] + ring[:first]),),), (), ())


def _chain(ordered):
    """The corners of the hull from the first to the last one of ordered points, which lies at their left."""
    chain = []
    for point in ordered:
        while len(chain) > 1 and turn(chain[-2], chain[-1], point) <= 0:
            chain.pop()
        chain.append(point)
    return chain
