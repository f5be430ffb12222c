"""Plain frames of linked points and of ends, bindings, and entering (S7.7)."""

from shapeguess.compiling import code_of
from shapeguess.facts import fact_holds, is_shaped, meaning_of
from shapeguess.values import NONE, is_index


def bound_names(version, binding):
    """Return the dict from the names of a version to the numbers of the objects for which they stand."""
    return {name: number for name, number in zip(version.names(), binding)}


def has_shape(version, binding, objects, number, shape):
    """Return whether an object of a list has a shape in a version: True or False."""
    return is_shaped(objects, bound_names(version, binding), number, shape)


def names_right(state, version, binding):
    """Return whether anything is a binding of a version for a state: True or False."""
    if not isinstance(binding, (list, tuple)) or len(binding) != len(version.names()):
        return False
    many = len(state.objects())
    return all([is_index(number, many) for number in binding]) and len(binding) == len(set(binding))


def frame_at(program, version, binding, k, registers):
    """Return the plain frame of a point of a version."""
    row, _, pairs = version.point(k)
    return plain_frame(program, bound_names(version, binding), (version.function(), row, pairs), registers)


def told_frames(program, version, binding, end, registers):
    """Return the list of the told frames of an end as plain frames."""
    names = bound_names(version, binding)
    return [plain_frame(program, names, frame, registers) for frame in end[1]]


def plain_frame(program, names, frame, registers):
    """Return the plain frame of a tuple of a function, a row and pairs of plain registers and places."""
    function, row, pairs = frame
    values = [NONE] * code_of(program.function(function)).registers()
    for number, place in pairs:
        values[number] = value_at(names, place, registers)
    return (function, row, tuple(values))


def value_at(names, place, registers):
    """Return the value of a place."""
    if place[0] == "reg":
        return registers[place[1]]
    return place[1] if place[0] == "value" else meaning_of(names, place)


def fits_point(state, version, binding, k):
    """Return whether the innermost frame of a state fits a point of a version: True or False."""
    row, facts, pairs = version.point(k)
    function, number, values = state.frames()[-1]
    if function != version.function() or number != row:
        return False
    names = bound_names(version, binding)
    registers = registers_from(version, pairs, values)
    for place, told in pairs:
        if values[place] != value_at(names, told, registers):
            return False
    scene = (state.objects(), state.global_values(), names, registers)
    return all([fact_holds(scene, fact) for fact in facts])


def entered(state, version, binding, k):
    """Return the list of the quick registers after entering a point of a version."""
    return registers_from(version, version.point(k)[2], state.frames()[-1][2])


def registers_from(version, pairs, values):
    """Return the list of the quick registers, where those that are places have the values of plain registers."""
    registers = [NONE] * version.registers()
    for number, place in pairs:
        if place[0] == "reg":
            registers[place[1]] = values[number]
    return registers
