"""Drawn shapes, tables and conditions, and plain searches of forms, for tests of plans, joins, rules and books."""

from tests.helpers import EMPTY, random_told
from wherebase.meet.meets import RELATIONS
from wherebase.shape.shapes import Shape, area, dots, line
from wherebase.table.tables import MAX_SIZE, Table

SPOT, WAY, WORTH, COST, NAME = [("column", name) for name in ("spot", "way", "worth", "cost", "name")]
KINDS_OF = {"spot": "shape", "way": "shape", "worth": "number", "cost": "number", "name": "text"}
SQUARES = (0, 1, 2, 5, 9, 10, (1, 2), (9, 4), (25, 2), (0, 1), (1, 100))


def drawn_shape(rows, spread=6):
    """A shape that is small, somewhere, and seldom the empty one."""
    kind = rows.choice(["told", "box", "line", "dots", "empty"])
    x, y = rows.randint(-spread, spread), rows.randint(-spread, spread)
    if kind == "told":
        shape = Shape(*random_told(rows))
        return shape if len(shape) <= MAX_SIZE else EMPTY
    if kind == "box":
        right, top = x + rows.randint(1, 4), y + rows.randint(1, 4)
        return area((x, y), (right, y), (right, top), (x, top))
    if kind == "line":
        return line((x, y), (x + rows.randint(-3, 3), y + rows.randint(-3, 3)))
    if kind == "dots":
        return dots((x, y), (2 * x + 1, 3 * y - 1, 6)) if (2 * x + 1) % 3 and (3 * y - 1) % 2 else dots((x, y))
    return EMPTY


def drawn_value(rows, kind):
    """A value of a kind, or None."""
    if rows.random() < 0.15:
        return None
    if kind == "number":
        return rows.randint(-3, 3)
    return rows.choice(["", "a", "b", "ab", "B", " "]) if kind == "text" else drawn_shape(rows)


def drawn_row(rows, kinds):
    return {column: drawn_value(rows, kind) for column, kind in kinds.items()}


def drawn_table(rows, count, kinds=None):
    """A table from which some rows were taken out again."""
    kinds = kinds or KINDS_OF
    table = Table(kinds)
    while len(table) < count:
        table = table.put(drawn_row(rows, kinds))
        if rows.random() < 0.2:
            table = table.without(rows.choice(table.numbers))
    return table


def drawn_condition(rows, levels):
    """A condition for a table of these kinds, often one that has windows."""
    kind = rows.choice(["not", "and", "or", "plain", "plain"]) if levels else "plain"
    if kind == "not":
        return ("not", drawn_condition(rows, levels - 1))
    if kind in ("and", "or"):
        return (kind, *[drawn_condition(rows, levels - 1) for _ in range(rows.choice([0, 1, 2, 2, 3]))])
    pair = [rows.choice([SPOT, SPOT, WAY]), ("value", drawn_shape(rows))]
    rows.shuffle(pair)
    return rows.choice([
        (rows.choice(RELATIONS), *pair), (rows.choice(RELATIONS), *pair), (rows.choice(RELATIONS), *pair),
        ("apart", *pair), ("near", *pair, rows.choice(SQUARES)), ("near", *pair, rows.choice(SQUARES)),
        ("same", *pair), ("missing", rows.choice([SPOT, WAY, WORTH])), ("less", WORTH, COST), ("meets", SPOT, WAY),
        ("less", ("square", *pair), ("value", 9)), ("same", NAME, ("value", "a")), ("less", ("area", SPOT), COST),
    ])


def entries_at(form):
    """All entries of a form with their places."""
    word, members = form
    if word == "leaf":
        return [((index,), number, box) for index, (number, box) in enumerate(members)]
    return [((index, *place), number, box) for index, (_, inner) in enumerate(members)
        for place, number, box in entries_at(inner)]


def do_meet(box, other):
    return box[0] <= other[2] and other[0] <= box[2] and box[1] <= other[3] and other[1] <= box[3]


def searched_plainly(form, box):
    """The numbers that a search finds and how many boxes it compares, told by the words of 11.2."""
    word, members = form
    if word == "leaf":
        return [number for number, own in members if do_meet(own, box)], len(members)
    found, looked = [], len(members)
    for own, inner in members:
        if do_meet(own, box):
            more, count = searched_plainly(inner, box)
            found, looked = found + more, looked + count
    return found, looked


def searched_both_plainly(form, other):
    """The pairs that a search of two forms finds and how many pairs of boxes it compares, told by the words of stage 11."""
    (word, members), (other_word, others) = form, other
    boxes = [member[1] if word == "leaf" else member[0] for member in members]
    other_boxes = [member[1] if other_word == "leaf" else member[0] for member in others]
    met = [(one, two) for one in range(len(boxes)) for two in range(len(other_boxes)) if do_meet(boxes[one],
        other_boxes[two])]
    looked = len(boxes) * len(other_boxes)
    if word == other_word == "leaf":
        return [(members[one][0], others[two][0]) for one, two in met], looked
    if word == "leaf":
        following = [(form, others[two][1]) for two in range(len(others)) if any(pair[1] == two for pair in met)]
    elif other_word == "leaf":
        following = [(members[one][1], other) for one in range(len(members)) if any(pair[0] == one for pair in met)]
    else:
        following = [(members[one][1], others[two][1]) for one, two in met]
    found = []
    for one, two in following:
        more, count = searched_both_plainly(one, two)
        found, looked = found + more, looked + count
    return found, looked
