"""Rules: statements about all rows of some tables."""

from wherebase.errors import InvalidCondition, InvalidName, InvalidOperation, InvalidRule, InvalidTable, TooMany
from wherebase.base.numbers import is_integer, is_name
from wherebase.rule.breaches import Apart, Check, Divides, Single, Within
from wherebase.shape.shapes import check_shapes
from wherebase.table.conditions import is_condition, truths
from wherebase.table.tables import MAX_SIZE, Table, compared

RULE_KINDS = ("apart", "check", "divides", "single", "within")


class Rule:
    """A rule of a kind, made by the functions below."""

    def __init__(self, kind, label, places, told, at_end):
        self._kind = kind
        self._label = label
        # pairs of a table and a column, or a table alone for "check"
        self._places = places
        # a shape for "divides", a condition for "check", otherwise None
        self._told = told
        self._at_end = at_end

    @property
    def label(self):
        """The label of the rule."""
        return self._label

    @property
    def kind(self):
        """The kind of the rule."""
        return self._kind

    @property
    def at_end(self):
        """Whether books ask the rule only at the end of transactions."""
        return self._at_end

    @property
    def names(self):
        """The ascending tuple of the tables of which the rule speaks."""
        return tuple(sorted({place[0] for place in self._places}))

    def __eq__(self, other):
        if not isinstance(other, Rule) or self._kind != other._kind or self._label != other._label:
            return False
        return self._places == other._places and self._told == other._told and self._at_end == other._at_end

    def __str__(self):
        places = " ".join([".".join(place) for place in self._places])
        return f"{self._label}: {self._kind} {places}{' at end' if self._at_end else ''}"


def apart_rule(label, table, column, *, at_end=False):
    """The rule that the insides of the shapes of two rows have no common point."""
    _check_names(label, table, column)
    _check_at_end(at_end)
    return Rule("apart", label, ((table, column),), None, at_end)


def single_rule(label, table, column, *, at_end=False):
    """The rule that no two rows have equal values."""
    _check_names(label, table, column)
    _check_at_end(at_end)
    return Rule("single", label, ((table, column),), None, at_end)


def within_rule(label, table, column, other_table, other_column, *, at_end=False):
    """The rule that each shape lies in the joint of all shapes of another column."""
    _check_names(label, table, column, other_table, other_column)
    _check_at_end(at_end)
    return Rule("within", label, ((table, column), (other_table, other_column)), None, at_end)


def divides_rule(label, table, column, shape, *, at_end=False):
    """The rule that the shapes of a column divide a shape."""
    _check_names(label, table, column)
    check_shapes(shape)
    _check_at_end(at_end)
    if len(shape) > MAX_SIZE:
        raise TooMany(MAX_SIZE)
    return Rule("divides", label, ((table, column),), shape, at_end)


def check_rule(label, table, condition, *, at_end=False):
    """The rule that a condition is false of no row."""
    _check_names(label, table)
    if not isinstance(condition, tuple):
        raise InvalidCondition("no tuple")
    _check_at_end(at_end)
    return Rule("check", label, ((table,),), _copied(condition), at_end)


def fits(rule, tables):
    """Whether a rule fits a dict from names to tables."""
    check_rules(rule)
    check_tables(tables)
    for name, *columns in rule._places:
        if name not in tables:
            return False
        kinds = tables[name].kinds
        for column in columns:
            if column not in kinds or rule.kind != "single" and kinds[column] != "shape":
                return False
    return rule.kind != "check" or is_condition(tables[rule._places[0][0]], rule._told)


def is_true(rule, tables):
    """Whether a rule is true of some tables."""
    return breach(rule, tables) is None


def breach(rule, tables):
    """The first breach of a rule, or None if the rule is true."""
    asked = _asked(rule, tables)
    for rows in asked.all_asked():
        found = asked.breach_at(rows)
        if found is not None:
            return found
    return None


def breached_rows(rule, tables):
    """The tuple of the rows of all breaches of a rule, in their order."""
    asked = _asked(rule, tables)
    return tuple([rows for rows in asked.all_asked() if asked.breach_at(rows) is not None])


def is_breach(rule, tables, value):
    """Whether the value is a breach of a rule."""
    asked = _asked(rule, tables)
    if not isinstance(value, tuple) or len(value) != 2:
        return False
    rows, point = value
    if not isinstance(rows, tuple) or not all([is_integer(number) for number in rows]):
        return False
    are_ascending = all([one < other for one, other in zip(rows, rows[1:])])
    return are_ascending and asked.is_breach_at(rows, point)


def check_rules(*values):
    """Refuses values of which one is no rule."""
    for value in values:
        if not isinstance(value, Rule):
            raise InvalidRule("no rule")


def check_tables(value):
    """Refuses a value that is no dict from names to tables."""
    if not isinstance(value, dict) or not all([is_name(name) and isinstance(value[name], Table) for name in value]):
        raise InvalidTable("no dict from names to tables")


def _check_names(*values):
    for value in values:
        if not is_name(value):
            raise InvalidName("no name")


def _check_at_end(value):
    if value is not True and value is not False:
        raise InvalidOperation("neither True nor False")


def _copied(value):
    """A value that shares no list and no dict with another one that is built of tuples, lists and dicts."""
    if isinstance(value, dict):
        return {key: _copied(value[key]) for key in value}
    if not isinstance(value, (list, tuple)):
        return value
    parts = [_copied(part) for part in value]
    return parts if isinstance(value, list) else tuple(parts)


def _asked(rule, tables):
    """What a rule asks of some tables that it fits."""
    if not fits(rule, tables):
        raise InvalidOperation("the rule does not fit the tables")
    kind, (name, *columns) = rule.kind, rule._places[0]
    if kind == "check":
        return Check(truths(tables[name], rule._told))
    if kind == "single":
        values = {number: compared(row[columns[0]]) for number, row in tables[name].rows.items()}
        return Single({number: value for number, value in values.items() if value is not None})
    shapes = _shapes_in(tables[name], columns[0])
    if kind == "apart":
        return Apart(shapes)
    if kind == "divides":
        return Divides(shapes, rule._told)
    other_name, other_column = rule._places[1]
    return Within(shapes, list(_shapes_in(tables[other_name], other_column).values()))


def _shapes_in(table, column):
    """The dict from the numbers of rows to the shapes in a column that are neither missing nor empty."""
    found = {number: row[column] for number, row in table.rows.items()}
    return {number: shape for number, shape in found.items() if shape is not None and len(shape) > 0}
