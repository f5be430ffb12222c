"""Makers of versions that guess shapes, functions, variants and globals, or go on at a link (S9.3).

Wherever new rows would be wrong by themselves, no right version comes of them, which replaced examines.
"""

from shapeguess.errors import BadShape
from shapeguess.factparts import is_told_shape
from shapeguess.quick import end_of, piece, row_of_point
from shapeguess.replacing import copied_rows, is_behind_break, replaced, with_steps


def with_own(program, version, number, shape):
    """Return the version in which a get or set row guesses a shape that has the field."""
    row = row_with_word(version, number, ("get", "set"))
    if row[0] == "get":
        quick = ("load", row[1], row[2], shape, row[3])
    else:
        quick = ("store", row[1], shape, row[2], row[3])
    new = [shape_check(row, shape), quick]
    return replaced(program, version, number, new, [], version.registers())


def with_grown(program, version, number, shape):
    """Return the version in which a set row guesses a shape that lacks the field."""
    row = row_with_word(version, number, ("set",))
    new = [shape_check(row, shape), ("grow", row[1], shape, row[2], row[3])]
    return replaced(program, version, number, new, [], version.registers())


def with_above(program, version, number, shape, chain):
    """Return the version in which a get row guesses a shape and finds the field in an object above."""
    row = row_with_word(version, number, ("get",))
    check_chain(shape, chain, row[3])
    holder, last = chain[-1]
    x = version.registers()
    new = [shape_check(row, shape), ("const", x, ("name", holder)), ("load", row[1], x, last, row[3])]
    return replaced(program, version, number, new, facts_of_chain(chain), x + 1)


def with_method(program, version, number, shape, chain, function):
    """Return the version in which a method row guesses a shape and the function that is found in an object above."""
    row = row_with_word(version, number, ("method",))
    check_chain(shape, chain, row[3])
    if function not in program.names():
        raise BadShape()
    x = version.registers()
    mark = ("fun", function)
    call = ("call", row[1], x, (row[2],) + row[4], row[5], row[6])
    watched = facts_of_chain(chain) + [("slot", chain[-1][0], row[3], mark)]
    return replaced(program, version, number, [shape_check(row, shape), ("const", x, mark), call], watched, x + 1)


def with_variant(program, version, number, variant):
    """Return the version in which a prim row guesses the kinds of its arguments."""
    row = row_with_word(version, number, ("prim",))
    kinds = kinds_of_variant(program.signature(), row[2], variant)
    if kinds is None:
        raise BadShape()
    checks = [("check", ("kind", place, kind), end_of(row)) for place, kind in zip(row[3], kinds)]
    new = checks + [("variant", row[1], variant, row[3])]
    return replaced(program, version, number, new, [], version.registers())


def with_global(program, version, number, mark):
    """Return the version in which a global row guesses the value of the global."""
    row = row_with_word(version, number, ("global",))
    watched = [("global", row[2], mark)]
    return replaced(program, version, number, [("const", row[1], mark)], watched, version.registers())


def gone_on(program, version, number):
    """Return the version in which the piece of the point to which a link leads comes in the place of the link."""
    row = row_with_word(version, number, ("link",))
    if is_behind_break(version, number, version.watched()):
        raise BadShape()
    copies = {at: [with_steps(version.row(at), row[1])] for at in piece(version, row[2])}
    new = copied_rows(copies, row_of_point(version, row[2]) + 1, number)
    return replaced(program, version, number, new, [], version.registers())


def specialized(program, version, cells, names):
    """Return the version with the guesses of entries of cells, from the greatest number of a row to the least one."""
    for number in sorted({pair[0] for pair in cells})[::-1]:
        for at, entry in cells:
            if at == number:
                version = with_entry(program, version, number, told_entry(entry, names))
    return version


def with_entry(program, version, number, entry):
    """Return the version in which a row guesses what an entry of a cell tells, whose objects are told by names."""
    shape, how = entry
    if how[0] == "own":
        return with_own(program, version, number, shape)
    if how[0] == "grow":
        return with_grown(program, version, number, shape)
    return with_above(program, version, number, shape, how[1])


def told_entry(entry, names):
    """Return an entry of a cell with names of the version in the place of its objects.

    The later shape of a "grow" stays as it is: it has the same root, and is not used.
    """
    shape, how = entry
    if how[0] == "up":
        chain = tuple([(told_object(number, names), told_shape(inner, names)) for number, inner in how[1]])
        how = (how[0], chain, how[2])
    return (told_shape(shape, names), how)


def told_shape(shape, names):
    """Return a shape with a name in the place of its root."""
    return (None if shape[0] is None else told_object(shape[0], names), shape[1])


def told_object(number, names):
    """Return the name of an object."""
    if number not in names:
        raise BadShape()
    return names[number]


def row_with_word(version, number, words):
    """Return the row with this number, which may be anything, if it is one of some words."""
    row = version.row(number)
    if row[0] not in words:
        raise BadShape()
    return row


def shape_check(row, shape):
    """Return the check of the shape of the object that a get, set or method row names."""
    return ("check", ("shape", row[1] if row[0] == "set" else row[2], shape), end_of(row))


def check_shape(shape):
    """Raise BadShape unless anything is a shape, whatever its root is."""
    if not is_told_shape(shape):
        raise BadShape()


def check_chain(shape, chain, field):
    """Raise BadShape unless anything is a shape and anything a chain of one or two above it that leads to a field."""
    check_shape(shape)
    if not isinstance(chain, tuple) or len(chain) not in (1, 2):
        raise BadShape()
    below = shape
    for link in chain:
        if not isinstance(link, tuple) or len(link) != 2 or field in below[1]:
            raise BadShape()
        check_shape(link[1])
        if link[0] != below[0]:
            raise BadShape()
        below = link[1]
    if field not in below[1]:
        raise BadShape()


def facts_of_chain(chain):
    """Return the list of the watched facts that a chain needs."""
    return [("holds", name, shape) for name, shape in chain]


def kinds_of_variant(signature, primitive, variant):
    """Return the tuple of the kinds of a variant, which may be anything, of a primitive, or None."""
    for name, kinds, _ in signature.variants(primitive):
        if name == variant:
            return kinds
    return None
