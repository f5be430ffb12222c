"""Versions for tests: S9.2's slow version of a function, and scenes and states around versions."""

from shapeguess.compiling import compiled
from shapeguess.live import live_at
from shapeguess.quick import Version

WITH_END = ("global", "get", "set", "drop", "new", "prim")


def places_at(code, row):
    return tuple((r, ("reg", r)) for r in live_at(code, row))


def end_at(code, function, row, steps=0):
    return (steps, ((function, row, places_at(code, row)),))


def slow_version(program, function):
    """A quick register for each register, and a point for each plain row."""
    code = compiled(program)[function]
    rows = []
    for i, row in enumerate(code.rows()):
        rows.append(("point", i))
        end = end_at(code, function, i)
        word = row[0]
        if word in ("const", "move", "same", "put", "show"):
            rows += [row, ("link", 1, i + 1)]
        elif word in WITH_END:
            rows += [row + (end,), ("link", 1, i + 1)]
        elif word == "jump":
            rows.append(("link", 1, row[1]))
        elif word == "test":
            rows += [("check", ("kind", row[1], "bit"), end), ("test", row[1], len(rows) + 3),
                     ("link", 1, i + 1), ("link", 1, row[2])]
        elif word == "return":
            rows.append(("return", 0, row[1]))
        elif word == "throw":
            rows.append(("stop", end))
        else:
            rows.append(row + (end, i + 1))
    points = [(i, (), places_at(code, i)) for i in range(len(code.rows()))]
    return Version(function, [], [], code.registers(), rows, points)


def parts_of(version):
    return [version.function(), version.names(), version.watched(), version.registers(), version.rows(),
            version.points()]


def with_part(version, **changed):
    """A version with other parts, by their names."""
    words = ("function", "names", "watched", "registers", "rows", "points")
    return Version(*(changed.get(word, part) for word, part in zip(words, parts_of(version))))
