"""A book kept plainly: rows in dicts that are copied at each step, for comparison with the books of the package."""

import copy

from wherebase.errors import (
    Broken, Conflict, InvalidName, InvalidNumber, InvalidOperation, InvalidRow, InvalidRule, NothingToUndo, TakenName,
    TooMany,
    UnknownName,
)
from wherebase.rule.rules import Rule, breach, fits
from wherebase.table.tables import Table, kind_of_value


def is_word(value):
    return isinstance(value, str) and value.isascii() and value.islower() and value.isalpha() and len(value) <= 20


def is_count(value, least=0):
    return isinstance(value, int) and not isinstance(value, bool) and value >= least


class PlainTable:
    """Kinds, rows and the next number."""

    def __init__(self, kinds):
        self.kinds, self.rows, self.next_number = kinds, {}, 1

    def __eq__(self, other):
        return (self.kinds, self.rows, self.next_number) == (other.kinds, other.rows, other.next_number)

    def check_row(self, values):
        if not isinstance(values, dict):
            raise InvalidRow("")
        for column, value in values.items():
            if column not in self.kinds or value is not None and kind_of_value(value) != self.kinds[column]:
                raise InvalidRow("")

    def check_number(self, number):
        if not is_count(number, 1) or number not in self.rows:
            raise InvalidNumber(number)

    def told(self):
        """The table of the package, made by its own steps."""
        table = Table(self.kinds)
        while table.next_number < self.next_number:
            number = table.next_number
            table = table.put(self.rows.get(number, {}))
            if number not in self.rows:
                table = table.without(number)
        return table


def ask(rules, tables):
    told = {name: table.told() for name, table in tables.items()}
    for rule in rules:
        found = breach(rule, told)
        if found is not None:
            raise Broken(rule.label, *found)


class PlainBook:
    def __init__(self, tables, *rules):
        self.rules = list(rules)
        self.versions = [copy.deepcopy(tables)]
        self.states = [copy.deepcopy(tables)]
        self.at = 0

    def changed(self, version):
        return [name for name in sorted(self.versions[0]) if self.versions[version][name] != self.versions[version - 1][name]]

    def check_name(self, name):
        if not is_word(name):
            raise InvalidName("")
        if name not in self.versions[0]:
            raise UnknownName(name)

    def table(self, name, *, version=None):
        self.check_name(name)
        if version is not None and (not is_count(version) or version >= len(self.versions)):
            raise InvalidNumber(version)
        return self.versions[-1 if version is None else version][name].told()

    def changes(self, version):
        if not is_count(version, 1) or version >= len(self.versions):
            raise InvalidNumber(version)
        found = {}
        for name in self.changed(version):
            before, rows = self.versions[version - 1][name].rows, self.versions[version][name].rows
            found[name] = {number: (before.get(number), rows.get(number)) for number in sorted({**before, **rows})
                if before.get(number) != rows.get(number)}
        return found

    def begin(self):
        return PlainTransaction(self)

    def add_rule(self, rule):
        if not isinstance(rule, Rule):
            raise InvalidRule("")
        if rule.label in [own.label for own in self.rules]:
            raise TakenName(rule.label)
        if not fits(rule, {name: table.told() for name, table in self.versions[-1].items()}):
            raise InvalidOperation("")
        if len(self.rules) == 16:
            raise TooMany(16)
        ask([rule], self.versions[-1])
        self.rules.append(rule)

    def remove_rule(self, label):
        if not is_word(label):
            raise InvalidName("")
        if label not in [rule.label for rule in self.rules]:
            raise UnknownName(label)
        self.rules = [rule for rule in self.rules if rule.label != label]

    def undo(self, many=1):
        return self.go(many, -1, self.at)

    def redo(self, many=1):
        return self.go(many, 1, len(self.states) - 1 - self.at)

    def go(self, many, step, most):
        if not is_count(many, 1):
            raise InvalidNumber(many)
        if many > most:
            raise NothingToUndo(many)
        tables = copy.deepcopy(self.states[self.at + step * many])
        for name in tables:
            tables[name].next_number = self.versions[-1][name].next_number
        ask(self.rules, tables)
        self.add(tables)
        self.at += step * many
        return len(self.versions) - 1

    def add(self, tables):
        if len(self.versions) == 100:
            raise TooMany(100)
        self.versions.append(tables)


class PlainTransaction:
    def __init__(self, book):
        self.book, self.began = book, len(book.versions) - 1
        self.first = book.versions[-1]
        self.tables = copy.deepcopy(self.first)
        self.early = [rule for rule in book.rules if not rule.at_end]
        self.is_open, self.uses, self.told_marks = True, set(), []

    @property
    def used(self):
        return tuple(sorted(self.uses))

    @property
    def marks(self):
        return tuple(label for label, _ in self.told_marks)

    def check(self, name=None):
        if not self.is_open:
            raise InvalidOperation("")
        if name is not None:
            self.book.check_name(name)

    def check_put_name(self, name):
        self.check()
        self.book.check_name(name)

    def table(self, name):
        self.check_put_name(name)
        self.uses.add(name)
        return self.tables[name].told()

    def try_table(self, name, table):
        tables = {**self.tables, name: table}
        asked = [rule for rule in self.early if name in rule.names]
        ask(asked, tables)
        self.tables = tables
        self.uses |= {name} | {used for rule in asked for used in rule.names}

    def put(self, name, values):
        self.check_put_name(name)
        table = copy.deepcopy(self.tables[name])
        table.check_row(values)
        if len(table.rows) == 60:
            raise TooMany(60)
        number = table.next_number
        table.rows[number] = {column: values.get(column) for column in table.kinds}
        table.next_number += 1
        self.try_table(name, table)
        return number

    def change(self, name, number, values):
        self.check_put_name(name)
        table = copy.deepcopy(self.tables[name])
        table.check_number(number)
        table.check_row(values)
        table.rows[number] = {**table.rows[number], **values}
        self.try_table(name, table)

    def take_out(self, name, *numbers):
        self.check_put_name(name)
        table = copy.deepcopy(self.tables[name])
        for number in numbers:
            table.check_number(number)
        for number in set(numbers):
            del table.rows[number]
        self.try_table(name, table)

    def mark(self, label):
        self.check()
        if not is_word(label):
            raise InvalidName("")
        if label in self.marks:
            raise TakenName(label)
        self.told_marks.append((label, self.tables))

    def back(self, label):
        self.check()
        if not is_word(label):
            raise InvalidName("")
        if label not in self.marks:
            raise UnknownName(label)
        index = self.marks.index(label)
        self.tables = self.told_marks[index][1]
        self.told_marks = self.told_marks[:index + 1]

    def end(self):
        self.check()
        for name in self.used:
            for version in range(self.began + 1, len(self.book.versions)):
                if name in self.book.changed(version):
                    raise Conflict(name)
        changed = {name: self.tables[name] for name in self.tables if self.tables[name] != self.first[name]}
        tables = {**copy.deepcopy(self.book.versions[-1]), **copy.deepcopy(changed)}
        ask(self.book.rules, tables)
        if changed:
            self.book.add(tables)
            self.book.states = self.book.states[:self.book.at + 1] + [copy.deepcopy(tables)]
            self.book.at += 1
        self.is_open = False
        return len(self.book.versions) - 1

    def drop(self):
        self.check()
        self.is_open = False
