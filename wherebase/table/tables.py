"""Tables: rows with numbers, and columns of kinds."""

from wherebase.errors import InvalidNumber, InvalidOperation, InvalidRow, InvalidTable, TooMany, UnknownName
from wherebase.base.numbers import is_integer, is_name
from wherebase.shape.shapes import Shape

MAX_COLUMNS = 8
MAX_ROWS = 60
MAX_SIZE = 60
MAX_TEXT = 40
KINDS = ("number", "shape", "text")


class Table:
    """A table; each change gives another one."""

    def __init__(self, kinds):
        if not isinstance(kinds, dict) or not 1 <= len(kinds) <= MAX_COLUMNS:
            raise InvalidTable("no dict of one to eight columns")
        if not all([is_name(column) and kinds[column] in KINDS for column in kinds]):
            raise InvalidTable("no dict from names to kinds")
        self._kinds = {column: kinds[column] for column in sorted(list(kinds))}
        self._rows = {}
        self._next_number = 1

    @property
    def kinds(self):
        """The dict from the columns to their kinds."""
        return dict(self._kinds)

    @property
    def columns(self):
        """The ascending tuple of the columns."""
        return tuple(self._kinds)

    @property
    def numbers(self):
        """The ascending tuple of the numbers of the rows."""
        return tuple(self._rows)

    @property
    def rows(self):
        """The dict from the numbers of the rows to the rows."""
        return {number: dict(row) for number, row in self._rows.items()}

    @property
    def next_number(self):
        """The number that the next row gets."""
        return self._next_number

    def row(self, number):
        """The row with a number."""
        self._check_there(number)
        return dict(self._rows[number])

    def put(self, values):
        """The table with one row more."""
        self._check_values(values)
        if len(self._rows) >= MAX_ROWS:
            raise TooMany(MAX_ROWS)
        row = {column: values.get(column) for column in self._kinds}
        return self._with({**self._rows, self._next_number: row}, self._next_number + 1)

    def change(self, number, values):
        """The table with other values in a row."""
        self._check_there(number)
        self._check_values(values)
        row = {column: values.get(column, worth) for column, worth in self._rows[number].items()}
        # the row keeps its place among the others
        return self._with({**self._rows, number: row}, self._next_number)

    def without(self, *numbers):
        """The table without some rows."""
        for number in numbers:
            self._check_there(number)
        kept = {number: row for number, row in self._rows.items() if number not in numbers}
        return self._with(kept, self._next_number)

    def _with(self, rows, next_number):
        """A table of the same kinds with other rows."""
        table = Table(self._kinds)
        table._rows = rows
        table._next_number = next_number
        return table

    def _check_there(self, number):
        if number not in self:
            raise InvalidNumber(number)

    def _check_values(self, values):
        if not isinstance(values, dict):
            raise InvalidRow("no dict")
        for column in values:
            if column not in self._kinds:
                raise InvalidRow("no column")
            if values[column] is not None and kind_of_value(values[column]) != self._kinds[column]:
                raise InvalidRow("not of the kind of the column")

    def __contains__(self, value):
        return is_integer(value) and value in self._rows

    def __len__(self):
        return len(self._rows)

    def __iter__(self):
        return iter(self._rows)

    def __eq__(self, other):
        if not isinstance(other, Table) or self._kinds != other._kinds:
            return False
        return self._rows == other._rows and self._next_number == other._next_number

    def __str__(self):
        return f"table of {len(self._kinds)} columns: {len(self._rows)} rows"


def kind_of_value(value):
    """The kind of columns in which a value can stand, or None."""
    if is_integer(value):
        return "number"
    if isinstance(value, Shape) and len(value) <= MAX_SIZE:
        return "shape"
    if isinstance(value, str) and len(value) <= MAX_TEXT and all([" " <= sign <= "~" for sign in value]):
        return "text"
    return None


def table_of(kinds, rows, next_number):
    """The table with some rows and a next number, for callers that have checked them."""
    table = Table(kinds)
    return table._with({number: dict(row) for number, row in rows.items()}, next_number)


def compared(value):
    """What tells whether values of one kind are equal, and can be a key: of a shape its least form."""
    return value.form if isinstance(value, Shape) else value


def check_table(value):
    """Refuses a value that is no table."""
    if not isinstance(value, Table):
        raise InvalidTable("no table")


def check_column(table, column):
    """Refuses a value that is no column of a table."""
    if column not in table.columns:
        raise UnknownName(column)


def check_kind(table, column, *kinds):
    """Refuses a column that is of none of some kinds."""
    if table.kinds[column] not in kinds:
        raise InvalidOperation("not of this kind")
