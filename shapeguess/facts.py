"""Facts, and whether they hold in a scene (S6.1, S6.2)."""

from shapeguess.factparts import is_mark, is_told_shape
from shapeguess.values import RESERVED, is_number, is_word, kind_of


def is_fact(signature, value):
    """Return whether anything is a register fact with kinds of a signature: True or False."""
    if not isinstance(value, tuple) or len(value) != 3 or not is_number(value[1]):
        return False
    word, _, told = value
    if word == "kind":
        return told in RESERVED or signature.has_kind(told)
    if word == "is":
        return is_mark(signature, told)
    if word == "shape":
        return is_told_shape(told)
    return (word == "same" or word == "unlike") and is_number(told)


def is_watched(signature, value):
    """Return whether anything is a watched fact with kinds of a signature: True or False."""
    if not isinstance(value, tuple) or len(value) not in (3, 4) or not is_word(value[1]):
        return False
    if value[0] == "slot":
        return len(value) == 4 and is_word(value[2]) and is_mark(signature, value[3])
    if len(value) != 3:
        return False
    if value[0] == "global":
        return is_mark(signature, value[2])
    return value[0] == "holds" and is_told_shape(value[2])


def meaning_of(names, mark):
    """Return the value that a mark means, or None if it is a name that is not among the names."""
    if mark[0] != "name":
        return mark
    return ("obj", names[mark[1]]) if mark[1] in names else None


def is_shaped(objects, names, number, shape):
    """Return whether an object of a list has a shape whose root, if it has one, is among the names."""
    root, fields = shape
    parent, own = objects[number]
    if [name for name, _ in own] != list(fields):
        return False
    if root is None:
        return parent is None
    return root in names and parent == names[root]


def fact_holds(scene, fact):
    """Return whether a fact holds in a scene: True or False."""
    objects, global_values, names, places = scene
    word = fact[0]
    if word == "global":
        return fact[1] in global_values and global_values[fact[1]] == meaning_of(names, fact[2])
    if word == "holds":
        return fact[1] in names and is_shaped(objects, names, names[fact[1]], fact[2])
    if word == "slot":
        return fact[1] in names and has_content(objects[names[fact[1]]], fact[2], meaning_of(names, fact[3]))
    if fact[1] >= len(places):
        return False
    value = places[fact[1]]
    if word == "kind":
        return kind_of(value) == fact[2]
    if word == "is":
        return value == meaning_of(names, fact[2])
    if word == "shape":
        return value[0] == "obj" and is_shaped(objects, names, value[1], fact[2])
    if fact[2] >= len(places):
        return False
    return (value == places[fact[2]]) == (word == "same")


def has_content(plain, field, value):
    """Return whether an object itself has a field with this value."""
    return (field, value) in plain[1]


def fits(scene, facts):
    """Return whether all facts of a list hold in a scene: True or False."""
    return all([fact_holds(scene, fact) for fact in facts])
