"""The lines that tell a table."""

from wherebase.base.numbers import is_name
from wherebase.plane.told import told_size
from wherebase.shape.shapes import MAX_TOLD, Shape
from wherebase.table.tables import KINDS, MAX_COLUMNS, MAX_ROWS, kind_of_value, table_of
from wherebase.text.told_shapes import ShapeWords, shape_words
from wherebase.text.words import integer_of, integer_word, text_of, text_word


class TableLines:
    """What lines tell of a table that are taken one by one."""

    def __init__(self):
        self._next_number = None
        self._kinds = {}
        self._rows = {}

    def take(self, line):
        """Takes the next line, and tells whether it can stand here; if it cannot, no other one may be taken."""
        word, *words = line.split(" ")
        if self._next_number is None:
            return word == "next" and self._take_next(words)
        if word == "column":
            return len(words) == 2 and self._take_column(words)
        return word == "row" and len(words) > 0 and self._take_row(words)

    def is_whole(self):
        """Whether the lines tell a table, with none lacking."""
        return len(self._kinds) > 0

    def outcome(self):
        """The table that the lines tell."""
        return table_of(self._kinds, self._rows, self._next_number)

    def _take_next(self, words):
        self._next_number = integer_of(words[0]) if len(words) == 1 else None
        return self._next_number is not None and self._next_number >= 1

    def _take_column(self, words):
        column, kind = words
        if not is_name(column) or kind not in KINDS or len(self._kinds) >= MAX_COLUMNS:
            return False
        if self._rows or not _is_behind(column, self._kinds):
            return False
        self._kinds[column] = kind
        return True

    def _take_row(self, words):
        number = integer_of(words[0])
        if number is None or not 1 <= number < self._next_number or not _is_behind(number, self._rows):
            return False
        values = _values_of(words[1:], self._kinds)
        if values is None or not self._kinds or len(self._rows) >= MAX_ROWS:
            return False
        self._rows[number] = {column: values.get(column) for column in self._kinds}
        return True


def table_lines(table):
    """The list of the lines of a table."""
    lines = [f"next {integer_word(table.next_number)}"]
    lines.extend([f"column {column} {kind}" for column, kind in table.kinds.items()])
    for number, row in table.rows.items():
        words = ["row", integer_word(number)]
        for column in table.columns:
            if row[column] is not None:
                words.extend([column, *_value_words(row[column])])
        lines.append(" ".join(words))
    return lines


def _value_words(value):
    """The list of the words of a value."""
    if isinstance(value, str):
        return [text_word(value)]
    return shape_words(value) if isinstance(value, Shape) else [integer_word(value)]


def _is_behind(key, keys):
    """Whether a key comes behind the last one of ascending keys."""
    return len(keys) == 0 or list(keys)[-1] < key


def _values_of(words, kinds):
    """The dict from columns to the values that the words of a row tell, or None."""
    found = {}
    start = 0
    while start < len(words):
        column = words[start]
        if column not in kinds or not _is_behind(column, found):
            return None
        end = start + 2
        if kinds[column] == "shape":
            end = words.index("}", start) + 1 if "}" in words[start:] else len(words)
        value = _value_of(words[start + 1:end], kinds[column])
        # a text can be too long, a shape too great, and what tells no value has no kind
        if kind_of_value(value) != kinds[column]:
            return None
        found[column] = value
        start = end
    return found


def _value_of(words, kind):
    """The value of a kind that words tell, or None."""
    if kind == "shape":
        return _shape_of(words)
    if len(words) != 1:
        return None
    return integer_of(words[0]) if kind == "number" else text_of(words[0])


def _shape_of(words):
    """The shape that words tell, or None."""
    told = ShapeWords()
    for word in words:
        if not told.take(word):
            return None
    areas, pieces, points = told.outcome()
    if not told.is_whole() or told_size(areas, pieces, points) > MAX_TOLD:
        return None
    return Shape(areas, pieces, points)
