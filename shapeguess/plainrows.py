"""What the plain rows read and write, and where they lead (S2.4, S2.7)."""

# For each word of a row: the members that are registers which it reads. The args of a row come besides.
READ_AT = {
    "const": (), "move": (2,), "global": (), "put": (2,), "get": (2,), "set": (1, 3), "drop": (1,), "new": (2,),
    "prim": (), "same": (2, 3), "call": (2,), "method": (2,), "jump": (), "test": (1,), "show": (1,), "return": (1,),
    "throw": (1,),
}
WITH_ARGUMENTS = ("prim", "call", "method")
WRITING = ("const", "move", "global", "get", "new", "prim", "same", "call", "method")
CALLING = ("call", "method")


def written_by(row):
    """Return the register that a row writes if it throws nothing, or None."""
    return row[1] if row[0] in WRITING else None


def read_by(row):
    """Return the list of the registers that a row reads."""
    found = [row[at] for at in READ_AT[row[0]]]
    if row[0] in WITH_ARGUMENTS:
        found.extend(row[-1])
    return found


def stretch_over(stretches, number):
    """Return the stretch that applies to a row, or None."""
    for stretch in stretches:
        if stretch[0] <= number < stretch[1]:
            return stretch
    return None


def rows_behind(rows, number):
    """Return the list of the rows to which a row leads if nothing is thrown in it."""
    row = rows[number]
    if row[0] == "jump":
        return [row[1]]
    if row[0] == "test":
        return [number + 1, row[2]]
    if row[0] == "return" or row[0] == "throw":
        return []
    return [number + 1]


def steps_from(rows, stretches, number):
    """Return the list of the steps from a row: pairs of a row and the register, or None, that the step writes."""
    written = written_by(rows[number])
    steps = [(behind, written) for behind in rows_behind(rows, number)]
    stretch = stretch_over(stretches, number)
    if stretch is not None:
        steps.append((stretch[2], stretch[3]))
    return steps
