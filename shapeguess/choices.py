"""Which choices an engine can make (S10.2, S10.5, S10.6)."""

from shapeguess.alike import reached
from shapeguess.checking import check_version
from shapeguess.errors import BadVersion
from shapeguess.facts import fits
from shapeguess.points import bound_names
from shapeguess.quick import Version
from shapeguess.values import is_index, is_number
from shapeguess.versionparts import values_in_version

# For each first word of a choice: how many members it has.
CHOICE_LENGTHS = {"step": 1, "enter": 3, "back": 1, "clear": 3, "put": 3, "throw": 2}


def can_do(engine, choice):
    """Return whether anything is a choice that an engine can make now: True or False."""
    if not isinstance(choice, tuple) or not choice or not isinstance(choice[0], str):
        return False
    word = choice[0]
    if CHOICE_LENGTHS.get(word) != len(choice):
        return False
    if word == "step":
        return engine.end() is None
    if word == "enter":
        return can_enter(engine, choice[1], choice[2])
    if word == "back":
        return engine.end() is None and engine.frames()[-1][0] == "point"
    if word == "clear":
        return has_cell(engine, choice[1], choice[2])
    if word == "put":
        return can_put(engine, choice[1], choice[2])
    return is_in(engine, choice[1])


def is_in(engine, v):
    """Return whether anything is the number of a version that is in."""
    versions = engine.versions()
    return is_index(v, len(versions)) and versions[v][2]


def can_enter(engine, v, k):
    """Return whether the innermost frame can enter a version at a point, both of which may be anything."""
    if engine.end() is not None or engine.frames()[-1][0] != "plain" or not is_in(engine, v):
        return False
    return is_index(k, len(engine.versions()[v][0].points())) and engine.fits(v, k)


def has_cell(engine, function, row):
    """Return whether there is a cell for a function and a row, both of which may be anything."""
    return isinstance(function, str) and is_number(row) and (function, row) in engine.cells()


def can_put(engine, version, objects):
    """Return whether a version can be put in with names bound to objects, both of which may be anything."""
    if not isinstance(version, Version) or not isinstance(objects, tuple):
        return False
    state = engine.rebuilt()
    try:
        check_version(state.program(), version)
    except BadVersion:
        return False
    tokens = [value for value in values_in_version(version) if value[0] == "tok"]
    if not all([state.book().has_token(token) for token in tokens]):
        return False
    if not are_different_objects(reached(state), objects) or len(objects) != len(version.names()):
        return False
    scene = (state.objects(), state.global_values(), bound_names(version, objects), [])
    return fits(scene, version.watched())


def are_different_objects(numbers, objects):
    """Return whether the members of a tuple, which may be anything, are different ones of some numbers."""
    if not all([is_number(number) and number in numbers for number in objects]):
        return False
    return len(objects) == len(set(objects))
