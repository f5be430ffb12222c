"""The parts of facts: marks, shapes, registers and names (S6.1)."""

from shapeguess.values import are_different_words, is_value, is_word

# For each word of a register fact: how many of the members behind it are registers.
REGISTER_COUNTS = {"kind": 1, "is": 1, "shape": 1, "same": 2, "unlike": 2}


def is_told_value(signature, value):
    """Return whether anything is a value, but no object, whose kind, if it is a token, is one of a signature."""
    if not is_value(value) or value[0] == "obj":
        return False
    return value[0] != "tok" or signature.has_kind(value[1])


def is_name(value):
    """Return whether anything stands for the object that a word names."""
    return isinstance(value, tuple) and len(value) == 2 and value[0] == "name" and is_word(value[1])


def is_mark(signature, value):
    """Return whether anything is a mark with kinds of a signature."""
    return is_name(value) or is_told_value(signature, value)


def is_told_shape(value):
    """Return whether anything is a shape in a fact."""
    if not isinstance(value, tuple) or len(value) != 2:
        return False
    return (value[0] is None or is_word(value[0])) and are_different_words(value[1])


def registers_in(fact):
    """Return the list of the registers that a fact names."""
    return list(fact[1:1 + REGISTER_COUNTS.get(fact[0], 0)])


def names_in_mark(mark):
    """Return the list of the names of objects in a mark."""
    return [mark[1]] if mark[0] == "name" else []


def names_in_shape(shape):
    """Return the list of the names of objects in a shape."""
    return [] if shape[0] is None else [shape[0]]


def names_in(fact):
    """Return the list of the names of objects in a fact."""
    if fact[0] == "is" or fact[0] == "global":
        return names_in_mark(fact[2])
    if fact[0] == "shape":
        return names_in_shape(fact[2])
    if fact[0] == "holds":
        return [fact[1]] + names_in_shape(fact[2])
    if fact[0] == "slot":
        return [fact[1]] + names_in_mark(fact[3])
    return []


def with_register(fact, old, new):
    """Return a register fact with one register in the place of another one."""
    many = REGISTER_COUNTS[fact[0]]
    places = tuple([new if place == old else place for place in fact[1:1 + many]])
    return fact[:1] + places + fact[1 + many:]
