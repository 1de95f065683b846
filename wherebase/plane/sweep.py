"""A sweep from left to right over sides that do not cross: where they touch."""

from wherebase.base.geometry import line_through, value_at, way
from wherebase.base.order import slope_ranks, steps_of


def holders(sides, points):
    """The pairs (point, indices of the sides on which it lies) for all ends and points, from left to right.

    Two sides may have an end of one of them in common, but no other point.
    """
    found = {point: True for side in sides for point in side}
    for point in points:
        found[point] = True
    events = list(found)
    steps = {point: step for point, step in zip(events, steps_of(events))}
    spans = [(one, two) if steps[one] < steps[two] else (two, one) for one, two in sides]
    rulers = [line_through(left, right) for left, right in spans]
    ranks = slope_ranks([way(left, right) for left, right in spans])
    begun = {}
    for index, (left, _) in enumerate(spans):
        begun.setdefault(left, []).append(index)
    passing = []
    told = []
    for _, point in sorted([(steps[point], point) for point in events]):
        low, high = _range_at(passing, rulers, point)
        held = passing[low:high] + begun.get(point, [])
        going_on = [(ranks[index], index) for index in held if spans[index][1] != point]
        passing[low:high] = [index for _, index in sorted(going_on)]
        told.append((point, held))
    return told


def _range_at(passing, rulers, point):
    """The range of the sides on which a point lies, of sides that are ordered upwards."""
    low = _first_from(passing, rulers, point, 0)
    high = low
    while high < len(passing) and value_at(rulers[passing[high]], point) == 0:
        high += 1
    return low, high


def _first_from(passing, rulers, point, low):
    """The index of the first side that is not below a point."""
    high = len(passing)
    while low < high:
        middle = (low + high) // 2
        if value_at(rulers[passing[middle]], point) > 0:
            low = middle + 1
        else:
            high = middle
    return low
