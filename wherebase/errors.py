"""The errors of the package."""


class WhereError(ValueError):
    """The base of most errors."""


class InvalidPoint(WhereError):
    """A value is no point."""


class InvalidShape(WhereError):
    """A value is no shape, or tells none."""


class InvalidCell(WhereError):
    """A value is no cell of a drawing."""


class InvalidDrawing(WhereError):
    """A value is no drawing."""


class InvalidMap(WhereError):
    """A value is no map, or tells none."""


class InvalidLayer(WhereError):
    """A value is no layer."""


class InvalidArcs(WhereError):
    """A value is no told arcs, or they are not right."""


class InvalidBox(WhereError):
    """A value is no box."""


class InvalidName(WhereError):
    """A value is no name."""


class InvalidTree(WhereError):
    """A value is no tree, or tells none."""


class InvalidTable(WhereError):
    """A value is no table, or tells none."""


class InvalidRow(WhereError):
    """A value tells no row of a table."""


class InvalidCondition(WhereError):
    """A value is no condition or term."""


class InvalidQuestion(WhereError):
    """A value is no order of a question."""


class InvalidPlan(WhereError):
    """A value is no plan."""


class InvalidRule(WhereError):
    """A value is no rule."""


class InvalidOperation(WhereError):
    """A call makes no sense for its arguments."""


class TakenName(WhereError):
    """A name is in use."""

    def __init__(self, name):
        self.name = name


class ParseError(WhereError):
    """A string cannot be read from an index on."""

    def __init__(self, index):
        self.index = index


class InvalidNumber(IndexError):
    """A value is not the number that is asked for."""

    def __init__(self, value):
        self.value = value


class UnknownName(KeyError):
    """A name is the name of nothing."""

    def __init__(self, name):
        self.name = name


class TooMany(OverflowError):
    """There is more than a limit allows."""

    def __init__(self, limit):
        self.limit = limit


class NothingToUndo(LookupError):
    """There are not so many changes."""

    def __init__(self, many):
        self.many = many


class Conflict(RuntimeError):
    """A table was changed by another transaction."""

    def __init__(self, name):
        self.name = name


class Broken(ArithmeticError):
    """A rule would not be true."""

    def __init__(self, label, rows, point):
        self.rule_label = label
        self.row_numbers = rows
        self.point = point
