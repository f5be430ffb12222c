"""What quick rows read and write (S7.4, S7.5)."""

from shapeguess.factparts import registers_in
from shapeguess.quick import end_of
from shapeguess.quickforms import quick_registers_in

# For each word of a row: the members that are registers which it reads. The args of a row come besides.
QUICK_READS = {
    "const": (), "move": (2,), "same": (2, 3), "put": (2,), "show": (1,), "point": (), "load": (2,), "store": (1, 4),
    "grow": (1, 4), "variant": (), "jump": (), "test": (1,), "check": (), "global": (), "get": (2,), "set": (1, 3),
    "drop": (1,), "new": (2,), "prim": (), "stop": (), "link": (), "return": (2,), "call": (2,), "method": (2,),
}
# The member that is a tuple of registers.
ARGUMENTS_AT = {"variant": 3, "prim": 3, "call": 3, "method": 4}
# A call or method row is not among them: its register is written when control comes back, behind the piece.
QUICK_WRITING = ("const", "move", "same", "load", "variant", "global", "get", "new", "prim")


def quick_written_by(row):
    """Return the list, of one or none, of the quick registers that a row writes."""
    return [row[1]] if row[0] in QUICK_WRITING else []


def quick_read_by(row, points):
    """Return the list of the quick registers that a row reads, with those that count as read."""
    found = [row[at] for at in QUICK_READS[row[0]]]
    if row[0] in ARGUMENTS_AT:
        found.extend(row[ARGUMENTS_AT[row[0]]])
    if row[0] == "check":
        found.extend(registers_in(row[1]))
    end = end_of(row)
    if end is not None:
        for _, _, pairs in end[1]:
            found.extend(quick_registers_in(pairs))
    if row[0] == "link":
        found.extend(quick_registers_in(points[row[2]][2]))
    # What the point behind a call tells besides its result, the end of the call tells in the same places.
    return found
