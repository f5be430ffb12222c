"""Slow versions: one point and its plain row after the other (S9.2)."""

from shapeguess.compiling import code_of
from shapeguess.live import live_lists
from shapeguess.plainrows import CALLING
from shapeguess.quick import Version

SAME_ROWS = ("const", "move", "same", "put", "show")
ROWS_WITH_END = ("global", "get", "set", "drop", "new", "prim")


def slow(program, function):
    """Return the slow version of a function, whose name may be anything."""
    code = code_of(program.function(function))
    lives = [tuple([(place, ("reg", place)) for place in live]) for live in live_lists(code)]
    rows = []
    for i, row in enumerate(code.rows()):
        end = (0, ((function, i, lives[i]),))
        rows.append(("point", i))
        rows.extend(quick_rows(row, i, end, len(rows)))
    points = [(i, (), live) for i, live in enumerate(lives)]
    return Version(function, [], [], code.registers(), rows, points)


def quick_rows(row, i, end, first):
    """Return the list of the quick rows for the plain row i, the first of which gets the number first."""
    word = row[0]
    if word in SAME_ROWS:
        return [row, ("link", 1, i + 1)]
    if word in ROWS_WITH_END:
        return [row + (end,), ("link", 1, i + 1)]
    if word == "jump":
        return [("link", 1, row[1])]
    if word == "test":
        links = [("link", 1, i + 1), ("link", 1, row[2])]
        return [("check", ("kind", row[1], "bit"), end), ("test", row[1], first + 3)] + links
    if word == "return":
        return [("return", 0, row[1])]
    if word in CALLING:
        return [row + (end, i + 1)]
    return [("stop", end)]
