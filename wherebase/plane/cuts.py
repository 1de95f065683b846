"""How sides and points cut one another."""

from wherebase.base.geometry import lies_between, line_through, shared_points
from wherebase.base.order import steps_of


def cut(sides, points):
    """The corners that sides and points make together, and how they lie.

    Returns the ascending list of the corners, their steps (wherebase.base.order), and for each side its
    chain: the indices of all corners on it, in the order of the steps.
    """
    held = _points_on_sides(sides, points)
    found = {point: True for point in points}
    for on_side in held:
        found.update(on_side)
    corners = sorted(list(found))
    steps = steps_of(corners)
    index_of = {corner: index for index, corner in enumerate(corners)}
    chains = []
    for on_side in held:
        indices = [index_of[point] for point in on_side]
        chains.append([index for _, index in sorted([(steps[index], index) for index in indices])])
    return corners, steps, chains


def _points_on_sides(sides, points):
    """For each side a dict of the points that cut it, its ends too."""
    rulers = [line_through(one, two) for one, two in sides]
    held = [{one: True, two: True} for one, two in sides]
    for late in range(len(sides)):
        for early in range(late):
            for point in shared_points(sides[early], sides[late], rulers[early], rulers[late]):
                held[early][point] = True
                held[late][point] = True
    for index, (one, two) in enumerate(sides):
        for point in points:
            if lies_between(point, one, two):
                held[index][point] = True
    return held
