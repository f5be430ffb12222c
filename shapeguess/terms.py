"""What terms begin with: the candidates for shapes and the first known values (S8.2, S8.5)."""

from shapeguess.compiling import compiled
from shapeguess.values import kind_of
from shapeguess.versionparts import plain_rows_of, told_shapes, values_in_rows, values_in_version

# The errors that plain rows throw by themselves.
THROWN_ERRORS = ("object", "field", "function", "count", "kind", "bit", "global", "deep")


def candidates(version):
    """Return the list of the candidates."""
    rows = version.rows()
    found = {shape: True for shape in told_shapes(version)}
    set_fields = [row[2] for row in rows if row[0] == "set"]
    dropped = [row[2] for row in rows if row[0] == "drop"]
    for _ in set_fields + dropped:
        for shape in list(found):
            for earlier in shapes_before(shape, set_fields, dropped):
                found[earlier] = True
    return list(found)


def shapes_before(shape, set_fields, dropped):
    """Return the list of the shapes from which one set or drop of these fields leads to a shape."""
    root, fields = shape
    found = []
    if fields and fields[-1] in set_fields:
        found.append((root, fields[:-1]))
    for field in dropped:
        if field not in fields:
            found.extend([(root, fields[:at] + (field,) + fields[at:]) for at in range(len(fields) + 1)])
    return found


def first_known(program, version, kind):
    """Return the list of the first known values of "err", of "fun" or of a kind of the signature."""
    return first_values(compiled(program), version, kind)


def first_values(codes, version, kind):
    """Return the list of the first known values of a kind, where codes has the codes of all functions."""
    values = values_in_rows(plain_rows_of(codes)) + values_in_version(version)
    if kind == "err":
        values.extend([("err", word) for word in THROWN_ERRORS])
    first = [("fun", name) for name in codes] if kind == "fun" else []
    # The last member of these values, a number or a word, tells their order.
    rest = sorted({value[-1] for value in values if kind_of(value) == kind and value not in first})
    if kind == "err" or kind == "fun":
        return first + [(kind, word) for word in rest]
    return [("tok", kind, number) for number in rest]
