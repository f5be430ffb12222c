"""Functions put inside of others (S9.5)."""

from shapeguess.compiling import code_of
from shapeguess.errors import BadShape
from shapeguess.factparts import registers_in
from shapeguess.live import waiting_at
from shapeguess.quick import end_of, has_end, piece, row_of_point
from shapeguess.quickforms import QUICK_FORMS
from shapeguess.replacing import copied_rows, replaced, with_end
from shapeguess.values import NONE


def put_inside(program, version, number, inner):
    """Return the version in which a call row guesses its function, whose quick rows come in the place of the call."""
    row = version.row(number)
    if row[0] != "call" or not is_plain_inside(inner):
        raise BadShape()
    if len(program.function(inner.function())[1]) != len(row[3]):
        raise BadShape()
    base = version.registers()
    new = rows_of_entering(row, inner, base)
    copies = {at: rows_inside(program, row, inner.row(at), base) for at in piece(inner, 0)}
    new.extend(copied_rows(copies, row_of_point(inner, 0) + 1, number + len(new)))
    return replaced(program, version, number, new, [], base + inner.registers())


def is_plain_inside(inner):
    """Return whether a version can be put inside: it needs nothing, and its point 0 begins the function and ends it."""
    plain_row, facts, _ = inner.point(0)
    if inner.names() or inner.watched() or plain_row != 0 or facts:
        return False
    return not any([inner.row(at)[0] in ("link", "call", "method") for at in piece(inner, 0)])


def rows_of_entering(row, inner, base):
    """Return the list of the rows that guess the function of a call row and give the inner registers their values."""
    _, _, s, args, end, _ = row
    rows = [("check", ("is", s, ("fun", inner.function())), end)]
    for at, place in inner.point(0)[2]:
        if place[0] == "reg":
            given = ("move", base + place[1], args[at]) if at < len(args) else ("const", base + place[1], NONE)
            rows.append(given)
        elif at < len(args):
            rows.append(("check", ("is", args[at], place[1]), end))
        elif place[1] != NONE:
            # All registers but the parameters are none where a function begins.
            raise BadShape()
    return rows


def rows_inside(program, row, inner_row, base):
    """Return the list of the rows that come in the place of an inner row, inside of a call row."""
    _, q, _, _, end, k = row
    if inner_row[0] == "return":
        return [("move", q, base + inner_row[2]), ("link", end[0] + inner_row[1] + 2, k)]
    moved = moved_row(inner_row, base)
    if not has_end(moved):
        return [moved]
    steps, frames = end_of(inner_row)
    told = (waiting_frame(program, end[1][0]),) + tuple([moved_frame(frame, base) for frame in frames])
    return [with_end(moved, (end[0] + 1 + steps, told))]


def waiting_frame(program, frame):
    """Return a told frame that stands at a call row with only those registers that wait there."""
    function, number, pairs = frame
    waiting = waiting_at(code_of(program.function(function)), number)
    return (function, number, tuple([pair for pair in pairs if pair[0] in waiting]))


def moved_frame(frame, base):
    """Return a told frame whose quick registers have greater numbers."""
    function, number, pairs = frame
    moved = [(at, ("reg", base + place[1]) if place[0] == "reg" else place) for at, place in pairs]
    return (function, number, tuple(moved))


def moved_row(row, base):
    """Return a quick row whose registers, but for those of its end, have greater numbers."""
    members = [moved_member(role, member, base) for role, member in zip(QUICK_FORMS[row[0]], row[1:])]
    return row[:1] + tuple(members)


def moved_member(role, member, base):
    """Return a member of a quick row, which is one in a certain role, with greater numbers of registers."""
    if role == "place":
        return member + base
    if role == "places":
        return tuple([place + base for place in member])
    if role == "fact":
        places = registers_in(member)
        return member[:1] + tuple([place + base for place in places]) + member[1 + len(places):]
    return member
