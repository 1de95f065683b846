"""Breaches: rows, and a point or None, that show that a rule is not true.

For each kind of rule a class has what it asks. `all_asked` lists the rows that breaches can have, in the order
of breaches; `breach_at` is any breach with such rows, or None; `is_breach_at` judges ascending rows and a point.
"""

from wherebase.base.points import is_point
from wherebase.meet.meets import inside_point
from wherebase.shape.overlays import open_point
from wherebase.shape.shapes import check_told_size, place
from wherebase.tree.boxes import apart_word, box_of


class Apart:
    """Shapes of which no two may have a common point inside, in a dict by the numbers of rows; none is empty."""

    def __init__(self, shapes):
        self._shapes = shapes
        self._boxes = {number: box_of(shapes[number]) for number in shapes}

    def all_asked(self):
        """The pairs of rows whose boxes meet."""
        boxes = self._boxes
        return [pair for pair in _pairs_of(boxes) if apart_word(boxes[pair[0]], boxes[pair[1]]) is None]

    def breach_at(self, rows):
        """Any breach with two rows."""
        one, other = rows
        return _shown(rows, inside_point(self._shapes[one], self._shapes[other]))

    def is_breach_at(self, rows, point):
        """Whether a point is inside the shapes of two rows."""
        if len(rows) != 2 or not is_point(point):
            return False
        shapes = self._shapes
        return all([number in shapes and place(shapes[number], point) == "inside" for number in rows])


class Divides:
    """Shapes as in `Apart`, which also must have a told shape as their joint."""

    def __init__(self, shapes, told):
        self._shapes = shapes
        self._told = told
        self._apart = Apart(shapes)
        check_told_size(len(told) + sum([len(shape) for shape in shapes.values()]))

    def all_asked(self):
        """The pairs of rows whose boxes meet, single rows, and no rows."""
        return [*self._apart.all_asked(), *[(number,) for number in self._shapes], ()]

    def breach_at(self, rows):
        """Any breach with two rows, with a row that goes beyond the told shape, or with a gap."""
        if len(rows) == 2:
            return self._apart.breach_at(rows)
        if len(rows) == 1:
            return _shown(rows, open_point(self._shapes[rows[0]], self._told))
        shapes = list(self._shapes.values())
        return _shown(rows, open_point(self._told, *shapes))

    def is_breach_at(self, rows, point):
        """Whether two rows, a row beyond the told shape, or a gap are shown by a point."""
        if len(rows) == 2:
            return self._apart.is_breach_at(rows, point)
        if len(rows) == 1:
            return rows[0] in self._shapes and point in self._shapes[rows[0]] and point not in self._told
        if len(rows) > 2 or point not in self._told:
            return False
        return not any([point in shape for shape in self._shapes.values()])


class Within:
    """Shapes that must lie in the joint of others, in a dict by the numbers of rows; none is empty."""

    def __init__(self, shapes, others):
        self._shapes = shapes
        self._others = {}
        boxes = [box_of(other) for other in others]
        for number, shape in shapes.items():
            box = box_of(shape)
            met = [other for other, other_box in zip(others, boxes) if apart_word(box, other_box) is None]
            check_told_size(len(shape) + sum([len(other) for other in met]))
            self._others[number] = met

    def all_asked(self):
        """Single rows."""
        return [(number,) for number in self._shapes]

    def breach_at(self, rows):
        """Any breach with one row."""
        shape, others = self._shapes[rows[0]], self._others[rows[0]]
        return _shown(rows, open_point(shape, *others))

    def is_breach_at(self, rows, point):
        """Whether a point of the shape of one row lies in none of the others."""
        if len(rows) != 1 or rows[0] not in self._shapes:
            return False
        return point in self._shapes[rows[0]] and not any([point in other for other in self._others[rows[0]]])


class Single:
    """Values of which no two may be equal, in a dict by the numbers of rows; none is missing."""

    def __init__(self, values):
        self._values = values

    def all_asked(self):
        """All pairs of rows."""
        return _pairs_of(self._values)

    def breach_at(self, rows):
        """The breach with two rows."""
        return (rows, None) if self.is_breach_at(rows, None) else None

    def is_breach_at(self, rows, point):
        """Whether the values of two rows are equal."""
        values = self._values
        if len(rows) != 2 or point is not None or not all([number in values for number in rows]):
            return False
        return values[rows[0]] == values[rows[1]]


class Check:
    """Truths of a condition, which may be false of no row, in a dict by the numbers of rows."""

    def __init__(self, truths):
        self._truths = truths

    def all_asked(self):
        """Single rows."""
        return [(number,) for number in self._truths]

    def breach_at(self, rows):
        """The breach with one row."""
        return (rows, None) if self.is_breach_at(rows, None) else None

    def is_breach_at(self, rows, point):
        """Whether the condition is false of one row."""
        return len(rows) == 1 and point is None and self._truths.get(rows[0]) is False


def _pairs_of(numbers):
    """The ascending list of the pairs of two different ones of ascending numbers."""
    return [(one, other) for one in numbers for other in numbers if one < other]


def _shown(rows, point):
    """The breach with a point, or None if there is no such point."""
    return None if point is None else (rows, point)
