"""Forms of trees: how they are packed, read and judged."""

from math import isqrt

from wherebase.base.numbers import is_integer
from wherebase.tree.boxes import box_around, is_box

# so many entries or branches a leaf or node holds; only the outermost one can hold fewer
_LEAST = 2
_MOST = 4


def is_entry(value):
    """Whether the value is a pair of an integer and a box."""
    return isinstance(value, tuple) and len(value) == 2 and is_integer(value[0]) and is_box(value[1])


def is_built(value):
    """Whether the value is built of leaves and nodes with entries and branches."""
    if not isinstance(value, tuple) or len(value) != 2 or not isinstance(value[1], tuple):
        return False
    word, members = value
    if word == "leaf":
        return all([is_entry(member) for member in members])
    return word == "node" and all([_is_branch(member) for member in members])


def packed(entries):
    """A right form of entries with different numbers."""
    rows = _rows_of([(box, number) for number, box in sorted(entries)])
    forms = [("leaf", tuple([(number, box) for box, number in row])) for row in rows]
    while len(forms) > 1:
        branches = [(box_around([box for box, _ in row]), form) for row, form in zip(rows, forms)]
        rows = _rows_of(branches)
        forms = [("node", tuple(row)) for row in rows]
    return forms[0]


def entries_of(form):
    """The list of the entries of all leaves of a form."""
    word, members = form
    if word == "leaf":
        return list(members)
    return [entry for _, inner in members for entry in entries_of(inner)]


def numbers_at(form, place):
    """The numbers of all entries beneath the branch at a place in a form, or that of the entry there."""
    for index in place[:-1]:
        _, form = form[1][index]
    word, members = form
    member = members[place[-1]]
    if word == "leaf":
        return [member[0]]
    return [number for number, _ in entries_of(member[1])]


def leaf_depths(form):
    """For each leaf of a form how many nodes it stands in."""
    word, members = form
    if word == "leaf":
        return [0]
    return [depth + 1 for _, inner in members for depth in leaf_depths(inner)]


def has_least_boxes(form):
    """Whether the box of each branch in a form is the least one around its entries."""
    word, members = form
    return word == "leaf" or all([_is_around(box, inner) and has_least_boxes(inner) for box, inner in members])


def has_right_sizes(form):
    """Whether each leaf and node of a form holds as many entries or branches as it should."""
    word, members = form
    if word == "leaf":
        return len(members) <= _MOST
    if not _LEAST <= len(members) <= _MOST:
        return False
    return all([len(inner[1]) >= _LEAST and has_right_sizes(inner) for _, inner in members])


def _is_branch(value):
    return isinstance(value, tuple) and len(value) == 2 and is_box(value[0]) and is_built(value[1])


def _is_around(box, form):
    """Whether a box is the least one around the entries in a form, of which there is at least one."""
    boxes = [own for _, own in entries_of(form)]
    return len(boxes) > 0 and box_around(boxes) == box


def _rows_of(pairs):
    """Pairs that begin with a box, in rows for leaves or nodes: those that lie near one another together."""
    count = isqrt(max(1, len(pairs) // _MOST))
    rows = []
    for column in _parted(_in_order(pairs, 0), count):
        rows.extend(_parted(_in_order(column, 1), max(1, -(-len(column) // _MOST))))
    return rows


def _in_order(pairs, axis):
    """Pairs that begin with a box, in the order of the middles of the boxes."""
    keys = sorted([(box[axis] + box[axis + 2], index) for index, (box, _) in enumerate(pairs)])
    return [pairs[index] for _, index in keys]


def _parted(pairs, count):
    """A list in so many parts, one behind the other, that differ in length by one at most."""
    many = len(pairs)
    return [pairs[many * index // count:many * (index + 1) // count] for index in range(count)]
