"""Boxes: tuples (left, bottom, right, top) of integers."""

from wherebase.errors import InvalidBox
from wherebase.base.numbers import is_integer, whole_above, whole_below
from wherebase.measure.measures import bounds


def is_box(value):
    """Whether the value is a box."""
    if not isinstance(value, tuple) or len(value) != 4 or not all([is_integer(end) for end in value]):
        return False
    left, bottom, right, top = value
    return left <= right and bottom <= top


def check_boxes(*values):
    """Refuses the first value that is no box."""
    for value in values:
        if not is_box(value):
            raise InvalidBox("no box")


def box_of(shape):
    """The least box that holds a shape, or None if it is empty."""
    found = bounds(shape)
    if found is None:
        return None
    left, bottom, right, top = found
    return (whole_below(left), whole_below(bottom), whole_above(right), whole_above(top))


def are_meeting(box, other_box):
    """Whether two boxes have a point in common."""
    return side_apart(box, other_box) is None


def side_apart(box, other_box):
    """The first word that tells where a box lies apart from another one, or None if they meet."""
    check_boxes(box, other_box)
    return apart_word(box, other_box)


def box_joint(*boxes):
    """The least box that holds all of one or more boxes."""
    if not boxes:
        raise InvalidBox("no boxes have a least one around them")
    check_boxes(*boxes)
    return box_around(boxes)


def box_common(box, other_box):
    """The box of the common points of two boxes, or None."""
    check_boxes(box, other_box)
    left, bottom, right, top = box
    other_left, other_bottom, other_right, other_top = other_box
    found = (max(left, other_left), max(bottom, other_bottom), min(right, other_right), min(top, other_top))
    return found if is_box(found) else None


def apart_word(box, other_box):
    """The word of `side_apart`, for callers that have checked the boxes."""
    left, bottom, right, top = box
    other_left, other_bottom, other_right, other_top = other_box
    if right < other_left:
        return "left"
    if left > other_right:
        return "right"
    if top < other_bottom:
        return "below"
    if bottom > other_top:
        return "above"
    return None


def box_around(boxes):
    """The least box that holds all boxes of a list or tuple that is not empty."""
    left, bottom = min([box[0] for box in boxes]), min([box[1] for box in boxes])
    right, top = max([box[2] for box in boxes]), max([box[3] for box in boxes])
    return (left, bottom, right, top)
