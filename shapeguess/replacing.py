"""Quick rows in the place of others (S9.3)."""

from shapeguess.checking import check_version
from shapeguess.errors import BadShape, BadVersion
from shapeguess.quick import WITH_END_AND_POINT, Version, end_of, has_end, rows_behind_row
from shapeguess.versionparts import field_of


def led_to(row, targets):
    """Return a jump or test row that leads to other rows, told by a dict from numbers of rows; any other row as is."""
    return row[:-1] + (targets[row[-1]],) if row[0] == "jump" or row[0] == "test" else row


def shifted_targets(many, number, new):
    """Return the dict from the numbers of many rows to those that they have if a row is replaced by new ones.

    What led to the row leads to the first of the new ones, or to the one behind it if there is none.
    """
    return {at: at if at <= number else at + new - 1 for at in range(many)}


def with_rows(version, number, new):
    """Return the list of the rows of a version with new rows, whose numbers are right already, in the place of one."""
    rows = version.rows()
    targets = shifted_targets(len(rows), number, len(new))
    rows = [led_to(row, targets) for row in rows]
    return rows[:number] + new + rows[number + 1:]


def replaced(program, version, number, new, watched, registers):
    """Return a version with new rows in the place of one, more watched facts, and a number of quick registers.

    Raise BadShape if this is not a right version, or if the row can follow one that may break one of the facts.
    """
    told = version.watched()
    if is_behind_break(version, number, watched):
        raise BadShape()
    for fact in watched:
        if fact not in told:
            told.append(fact)
    rows = with_rows(version, number, new)
    made = Version(version.function(), version.names(), told, registers, rows, version.points())
    try:
        check_version(program, made)
    except BadVersion:
        raise BadShape() from None
    return made


def is_behind_break(version, number, watched):
    """Return whether a row can follow one that may break one of some watched facts."""
    for at, row in enumerate(version.rows()):
        if any([may_break(row, fact) for fact in watched]) and number in rows_behind_row(version, at):
            return True
    return False


def may_break(row, fact):
    """Return whether a quick row may break a watched fact."""
    word = row[0]
    if fact[0] == "global":
        return word == "put" and row[1] == fact[1]
    if word not in ("set", "store", "grow", "drop"):
        return False
    field = field_of(row)
    if fact[0] == "slot":
        return field == fact[2]
    if word == "drop":
        return field in fact[2][1]
    return word != "store" and field not in fact[2][1]


def copied_rows(copies, begin, first):
    """Return the list of the rows that come in the place of those of a piece, the first of which gets a number.

    copies has for each row of the piece, ascending, the list of the rows in its place; begin is the row with which the
    piece begins. Jumps and tests lead to the first of the rows in the place of the one to which they led.
    """
    made = [] if begin == min(copies) else [("jump", begin)]
    targets = {}
    for number in copies:
        targets[number] = first + len(made)
        made.extend(copies[number])
    return [led_to(row, targets) for row in made]


def with_steps(row, more):
    """Return a quick row in whose end, or which as a link or return, more plain steps are counted."""
    if row[0] == "link" or row[0] == "return":
        return (row[0], row[1] + more, row[2])
    if not has_end(row):
        return row
    end = end_of(row)
    return with_end(row, (end[0] + more, end[1]))


def with_end(row, end):
    """Return a quick row that has an end with another one."""
    if row[0] in WITH_END_AND_POINT:
        return row[:-2] + (end, row[-1])
    return row[:-1] + (end,)
