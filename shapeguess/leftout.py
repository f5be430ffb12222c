"""Checks that are left out because they never go back (S9.4)."""

from shapeguess.deciding import goes_back
from shapeguess.errors import UnknownName
from shapeguess.quick import WITH_END, Version, piece
from shapeguess.replacing import with_rows


def left_out(program, version):
    """Return the version without the checks that may be left out."""
    number = 0
    while number < len(version.rows()):
        # A check that never goes back is no part of what other checks do, so that one way through them is enough.
        if version.row(number)[0] == "check" and can_go_back(program, version, number) is None:
            version = without_row(version, number)
        else:
            number = number + 1
    return version


def can_go_back(program, version, number):
    """Return (k, book, state, objects) of a start of a point in whose piece a row goes back, or None."""
    if version.row(number)[0] not in WITH_END:
        raise UnknownName(number)
    for k in range(len(version.points())):
        if number in piece(version, k):
            found = goes_back(program, version, k, number)
            return None if found is None else (k,) + found
    return None


def without_row(version, number):
    """Return a version without one of its rows."""
    rows = with_rows(version, number, [])
    points = version.points()
    return Version(version.function(), version.names(), version.watched(), version.registers(), rows, points)
