"""Versions: quick rows and linked points that belong to a function (S7.1 to S7.5)."""

from shapeguess.errors import UnknownName
from shapeguess.values import is_index

# The rows whose last member is an end; behind the end of a call or method row there is a point.
WITH_END = ("check", "global", "get", "set", "drop", "new", "prim", "stop")
WITH_END_AND_POINT = ("call", "method")
# The rows that nothing follows.
LAST = ("stop", "link", "return", "call", "method")


class Version:
    """A function's name, names of objects, watched facts, the number of quick registers, quick rows and points."""

    def __init__(self, function, names, watched, registers, rows, points):
        self._function = function
        self._names = kept(names)
        self._watched = kept(watched)
        self._registers = registers
        self._rows = kept(rows)
        self._points = kept(points)

    def function(self):
        """Return the name of the function."""
        return self._function

    def names(self):
        """Return the list of the names."""
        return handed_out(self._names)

    def watched(self):
        """Return the list of the watched facts."""
        return handed_out(self._watched)

    def registers(self):
        """Return the number of the quick registers."""
        return self._registers

    def rows(self):
        """Return the list of the quick rows."""
        return handed_out(self._rows)

    def points(self):
        """Return the list of the linked points."""
        return handed_out(self._points)

    def row(self, number):
        """Return the quick row with this number, which may be anything."""
        return member_at(self._rows, number)

    def point(self, number):
        """Return the linked point with this number, which may be anything."""
        return member_at(self._points, number)

    def __eq__(self, other):
        if not isinstance(other, Version):
            return False
        if self._function != other._function or self._names != other._names or self._watched != other._watched:
            return False
        if self._registers != other._registers:
            return False
        return self._rows == other._rows and self._points == other._points


def kept(part):
    """Return a part of a version as it is kept: a list as a tuple, and anything else, which is no such part, as is."""
    return tuple(part) if isinstance(part, list) else part


def handed_out(part):
    """Return a part of a version as it is told: a new list, or what was kept in the place of a list."""
    return list(part) if isinstance(part, tuple) else part


def member_at(part, number):
    """Return the member of a part with this number, which may be anything."""
    if not isinstance(part, tuple) or not is_index(number, len(part)):
        raise UnknownName(number)
    return part[number]


def has_end(row):
    """Return whether a quick row has an end."""
    return row[0] in WITH_END or row[0] in WITH_END_AND_POINT


def end_of(row):
    """Return the end of a quick row, or None."""
    if row[0] in WITH_END:
        return row[-1]
    return row[-2] if row[0] in WITH_END_AND_POINT else None


def steps_of(version, number):
    """Return the list of the rows that may follow a quick row at once."""
    row = version.row(number)
    if row[0] in LAST:
        return []
    if row[0] == "jump":
        return [row[1]]
    return [number + 1, row[2]] if row[0] == "test" else [number + 1]


def steps_told(version, number):
    """Return the number of plain steps that a quick row or its end tells, or None."""
    row = version.row(number)
    if row[0] == "link" or row[0] == "return":
        return row[1]
    end = end_of(row)
    return None if end is None else end[0]


def piece(version, k):
    """Return the ascending list of the rows of the piece of a point."""
    version.point(k)
    return rows_behind_row(version, row_of_point(version, k))


def row_of_point(version, k):
    """Return the number of the row of a point."""
    return version.rows().index(("point", k))


def rows_behind_row(version, number):
    """Return the ascending list of the rows that can follow a row, at once or through others."""
    found = {}
    todo = steps_of(version, number)
    while todo:
        row = todo.pop()
        if row not in found:
            found[row] = True
            todo.extend(steps_of(version, row))
    return sorted(found)
