"""What occurs in plain rows and in versions: values, shapes, fields and globals (S8.2, S8.3, S8.5)."""

from shapeguess.quick import end_of

# For each word of a row, plain or quick: the member that is a field, that is a shape, or that is a global.
FIELD_AT = {"get": 3, "set": 2, "drop": 2, "method": 3, "load": 4, "store": 3, "grow": 3}
SHAPE_AT = {"load": 3, "store": 2, "grow": 2}
GLOBAL_AT = {"global": 2, "put": 1}


def field_of(row):
    """Return the field that a row, plain or quick, names, or None."""
    return row[FIELD_AT[row[0]]] if row[0] in FIELD_AT else None


def plain_rows_of(codes):
    """Return the list of the plain rows of all codes."""
    return [row for code in codes.values() for row in code.rows()]


def facts_in(version):
    """Return the list of the facts in a version: the watched ones, those of the points and those of the checks."""
    found = version.watched()
    for _, facts, _ in version.points():
        found.extend(facts)
    return found + [row[1] for row in version.rows() if row[0] == "check"]


def places_in(version):
    """Return the list of the places in the points and in the ends of a version."""
    found = []
    for _, _, pairs in version.points():
        found.extend([place for _, place in pairs])
    for row in version.rows():
        end = end_of(row)
        if end is not None:
            found.extend([place for _, _, pairs in end[1] for _, place in pairs])
    return found


def values_in_version(version):
    """Return the list of the values that occur in a version."""
    marks = [row[2] for row in version.rows() if row[0] == "const"]
    for fact in facts_in(version):
        if fact[0] in ("is", "global", "slot"):
            marks.append(fact[-1])
    marks.extend([place[1] for place in places_in(version) if place[0] == "value"])
    return [mark for mark in marks if mark[0] != "name"]


def values_in_rows(rows):
    """Return the list of the values that occur in plain rows."""
    return [row[2] for row in rows if row[0] == "const"]


def shape_in_row(row):
    """Return the shape that a quick row tells, or None."""
    if row[0] == "check":
        return shape_in_fact(row[1])
    return row[SHAPE_AT[row[0]]] if row[0] in SHAPE_AT else None


def shape_in_fact(fact):
    """Return the shape that a fact tells, or None."""
    return fact[2] if fact[0] == "shape" or fact[0] == "holds" else None


def told_shapes(version):
    """Return the list of the told shapes of a version, each once."""
    shapes = [shape_in_fact(fact) for fact in version.watched()]
    for _, facts, _ in version.points():
        shapes.extend([shape_in_fact(fact) for fact in facts])
    shapes.extend([shape_in_row(row) for row in version.rows()])
    return list({shape: True for shape in shapes if shape is not None})


def fields_in(rows, version):
    """Return the list of the words that stand in plain rows, or in a version, where a field stands."""
    found = [field_of(row) for row in rows] + [field_of(row) for row in version.rows()]
    for shape in told_shapes(version):
        found.extend(shape[1])
    found.extend([fact[2] for fact in version.watched() if fact[0] == "slot"])
    return [field for field in found if field is not None]


def globals_in(rows, version):
    """Return the list of the globals of plain rows and of a version, each once, in order."""
    found = [fact[1] for fact in version.watched() if fact[0] == "global"]
    for row in rows + version.rows():
        if row[0] in GLOBAL_AT:
            found.append(row[GLOBAL_AT[row[0]]])
    return list({name: True for name in found})
