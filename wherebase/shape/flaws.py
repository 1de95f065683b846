"""What keeps a told ring from being the outer ring of a least form."""

from wherebase.base.geometry import line_through, shared_points, lies_between, turn
from wherebase.base.order import steps_of


def flaws_of(ring):
    """The words of the flaws of a tuple of points."""
    if len(ring) < 3:
        return ("few",)
    found = []
    if len({point: True for point in ring}) < len(ring):
        found.append("double")
    if any([_turn_at(ring, index) == 0 for index in range(len(ring))]):
        found.append("straight")
    if _has_meeting_sides(ring):
        found.append("meets")
    is_simple = len(found) == 0
    if ring[0] != min(ring):
        found.append("start")
    if is_simple and _is_clockwise(ring):
        found.append("clockwise")
    return tuple(found)


def _turn_at(ring, index):
    """The turn of a ring at one of its corners."""
    return turn(ring[index - 1], ring[index], ring[(index + 1) % len(ring)])


def _is_clockwise(ring):
    """Whether a ring that does not meet itself goes clockwise, told by its leftmost corner."""
    _, index = min([(step, index) for index, step in enumerate(steps_of(ring))])
    return _turn_at(ring, index) < 0


def _has_meeting_sides(ring):
    """Whether two sides have a point in common that is not the corner at which one follows the other."""
    sides = [(ring[index], ring[(index + 1) % len(ring)]) for index in range(len(ring))]
    for late in range(len(sides)):
        for early in range(late):
            if late == early + 1:
                allowed = {sides[late][0]: True}
            elif early == 0 and late == len(sides) - 1:
                allowed = {sides[early][0]: True}
            else:
                allowed = {}
            if any([point not in allowed for point in _common_points(sides[early], sides[late])]):
                return True
    return False


def _common_points(side, other):
    """The ends of what two sides have in common; a side can have equal ends."""
    if side[0] == side[1]:
        return [side[0]] if lies_between(side[0], other[0], other[1]) else []
    if other[0] == other[1]:
        return [other[0]] if lies_between(other[0], side[0], side[1]) else []
    ruler, other_ruler = line_through(side[0], side[1]), line_through(other[0], other[1])
    return shared_points(side, other, ruler, other_ruler)
