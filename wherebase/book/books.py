"""Books: tables that obey rules, in versions, and the transactions that change them."""

from wherebase.errors import Broken, Conflict, InvalidName, InvalidNumber, InvalidOperation, InvalidTable
from wherebase.errors import NothingToUndo, TakenName, TooMany, UnknownName
from wherebase.base.numbers import is_integer, is_name
from wherebase.rule.rules import breach, check_rules, check_tables, fits
from wherebase.table.tables import table_of

MAX_TABLES = 8
MAX_RULES = 16
MAX_VERSIONS = 100


class Book:
    """A book of tables and rules."""

    def __init__(self, tables, *rules):
        check_tables(tables)
        if not 1 <= len(tables) <= MAX_TABLES:
            raise InvalidTable("no dict of one to eight tables")
        check_rules(*rules)
        labels = [rule.label for rule in rules]
        for index, label in enumerate(labels):
            if label in labels[:index]:
                raise TakenName(label)
        own = {name: tables[name] for name in sorted(list(tables))}
        _check_rules_for(own, rules, len(rules))
        self._names = tuple(own)
        self._rules = list(rules)
        self._versions = [own]
        # for each version the names of the tables that it changes
        self._changed = [()]
        # the tables ahead of each change, and behind the last one; what is behind `_at` is undone
        self._states = [own]
        self._at = 0

    @property
    def names(self):
        """The ascending tuple of the names of the tables."""
        return self._names

    @property
    def rules(self):
        """The tuple of the rules."""
        return tuple(self._rules)

    @property
    def newest(self):
        """The number of the newest version."""
        return len(self._versions) - 1

    def table(self, name, *, version=None):
        """A table of a version, or of the newest one."""
        self._check_name(name)
        if version is None:
            return self._versions[-1][name]
        self._check_version(version, 0)
        return self._versions[version][name]

    def changes(self, version):
        """The rows that a version changes, for each table that it changes."""
        self._check_version(version, 1)
        before, tables = self._versions[version - 1], self._versions[version]
        return {name: _unlike_rows(before[name].rows, tables[name].rows) for name in self._changed[version]}

    def begin(self):
        """A transaction that begins with the newest version."""
        early = [rule for rule in self._rules if not rule.at_end]
        return Transaction(self, self.newest, self._versions[-1], early)

    def add_rule(self, rule):
        """Puts a rule behind all others."""
        check_rules(rule)
        if rule.label in [own.label for own in self._rules]:
            raise TakenName(rule.label)
        _check_rules_for(self._versions[-1], [rule], len(self._rules) + 1)
        self._rules = [*self._rules, rule]

    def remove_rule(self, label):
        """Takes out the rule with a label."""
        _check_label(label, [rule.label for rule in self._rules])
        self._rules = [rule for rule in self._rules if rule.label != label]

    def undo(self, many=1):
        """Undoes so many changes, and returns the number of the new version."""
        return self._turned(many, -1, self._at)

    def redo(self, many=1):
        """Does so many changes again that were undone, and returns the number of the new version."""
        return self._turned(many, 1, len(self._states) - 1 - self._at)

    def _turned(self, many, step, there):
        """Brings back the rows of a state that is `many` changes away, of those that are there."""
        if not is_integer(many) or many < 1:
            raise InvalidNumber(many)
        if many > there:
            raise NothingToUndo(many)
        state, newest = self._states[self._at + step * many], self._versions[-1]
        tables = {name: table_of(newest[name].kinds, state[name].rows, newest[name].next_number) for name in newest}
        _check_true(tables, self._rules)
        self._add_version(tables)
        self._at += step * many
        return self.newest

    def _ended(self, began, used, changed):
        """Takes the tables that a transaction changed, and returns the number of the newest version."""
        for name in used:
            if any([name in names for names in self._changed[began + 1:]]):
                raise Conflict(name)
        newest = self._versions[-1]
        tables = {**newest, **changed}
        _check_true(tables, self._rules)
        if changed:
            self._add_version(tables)
            self._states = [*self._states[:self._at + 1], tables]
            self._at += 1
        return self.newest

    def _add_version(self, tables):
        if len(self._versions) >= MAX_VERSIONS:
            raise TooMany(MAX_VERSIONS)
        before = self._versions[-1]
        self._changed.append(tuple([name for name in tables if tables[name] != before[name]]))
        self._versions.append(tables)

    def _check_name(self, name):
        if not is_name(name):
            raise InvalidName("no name")
        if name not in self:
            raise UnknownName(name)

    def _check_version(self, version, least):
        if not is_integer(version) or not least <= version < len(self._versions):
            raise InvalidNumber(version)

    def __contains__(self, value):
        return value in self._names

    def __len__(self):
        return len(self._versions)

    def __iter__(self):
        return iter(self._names)

    def __str__(self):
        counts = [(len(self._names), "table"), (len(self._rules), "rule"), (len(self._versions), "version")]
        told = ", ".join([f"{count} {word}{'' if count == 1 else 's'}" for count, word in counts])
        return f"book of {told}"


class Transaction:
    """Changes of the tables of a book that are made together; a book makes it."""

    def __init__(self, book, began, tables, early):
        self._book = book
        self._began = began
        self._first = tables
        self._tables = tables
        self._early = early
        self._is_open = True
        self._used = {}
        # the tables at each mark
        self._marks = {}

    @property
    def is_open(self):
        """Whether the transaction is neither ended nor dropped."""
        return self._is_open

    @property
    def began(self):
        """The number of the version with which the transaction began."""
        return self._began

    @property
    def used(self):
        """The ascending tuple of the names of the tables that the transaction uses."""
        return tuple(sorted(list(self._used)))

    @property
    def marks(self):
        """The tuple of the marks."""
        return tuple(self._marks)

    def table(self, name):
        """A table as the transaction has it."""
        self._check_table(name)
        self._used[name] = True
        return self._tables[name]

    def put(self, name, values):
        """Puts in a row, and returns its number."""
        self._check_table(name)
        number = self._tables[name].next_number
        self._take(name, self._tables[name].put(values))
        return number

    def change(self, name, number, values):
        """Changes values of a row."""
        self._check_table(name)
        self._take(name, self._tables[name].change(number, values))

    def take_out(self, name, *numbers):
        """Takes out rows."""
        self._check_table(name)
        self._take(name, self._tables[name].without(*numbers))

    def mark(self, label):
        """Puts a mark behind all others."""
        self._check_open()
        if not is_name(label):
            raise InvalidName("no name")
        if label in self._marks:
            raise TakenName(label)
        self._marks[label] = self._tables

    def back(self, label):
        """Brings back the tables at a mark."""
        self._check_open()
        labels = list(self._marks)
        _check_label(label, labels)
        self._tables = self._marks[label]
        for behind in labels[labels.index(label) + 1:]:
            del self._marks[behind]

    def end(self):
        """Ends the transaction, and returns the number of the newest version."""
        self._check_open()
        changed = {name: table for name, table in self._tables.items() if table != self._first[name]}
        newest = self._book._ended(self._began, self.used, changed)
        self._is_open = False
        return newest

    def drop(self):
        """Drops the transaction."""
        self._check_open()
        self._is_open = False

    def _check_open(self):
        if not self._is_open:
            raise InvalidOperation("the transaction is no longer open")

    def _check_table(self, name):
        self._check_open()
        self._book._check_name(name)

    def _take(self, name, table):
        """Has another table under a name, if all early rules that speak of it stay true."""
        tables = dict(self._tables)
        tables[name] = table
        asked = [rule for rule in self._early if name in rule.names]
        _check_true(tables, asked)
        self._tables = tables
        self._used[name] = True
        for rule in asked:
            for used in rule.names:
                self._used[used] = True

    def __enter__(self):
        self._check_open()
        return self

    def __exit__(self, kind, value, trace):
        self._is_open = False


def _check_label(label, labels):
    """Refuses what is none of some labels."""
    if not is_name(label):
        raise InvalidName("no name")
    if label not in labels:
        raise UnknownName(label)


def _check_rules_for(tables, rules, count):
    """Refuses rules that do not fit or are not true, and too many of them."""
    if not all([fits(rule, tables) for rule in rules]):
        raise InvalidOperation("a rule does not fit the tables")
    if count > MAX_RULES:
        raise TooMany(MAX_RULES)
    _check_true(tables, rules)


def _check_true(tables, rules):
    """Refuses tables of which the first of some rules is not true."""
    for rule in rules:
        found = breach(rule, tables)
        if found is not None:
            rows, point = found
            raise Broken(rule.label, rows, point)


def _unlike_rows(before, rows):
    """The pairs of rows, None where there is none, under the numbers of those that are unlike."""
    numbers = sorted(set([*before, *rows]))
    pairs = {number: (before.get(number), rows.get(number)) for number in numbers}
    return {number: pair for number, pair in pairs.items() if pair[0] != pair[1]}
