"""Plain frames of linked points and of ends, bindings, and entering (S7.7)."""

from shapeguess.compiling import compiled
from shapeguess.facts import fits, is_shaped, meaning_of
from shapeguess.values import NONE, is_index


def bound_names(version, binding):
    """Return the dict from the names of a version to the numbers of the objects for which they stand."""
    return {name: number for name, number in zip(version.names(), binding)}


def has_shape(version, binding, objects, number, shape):
    """Return whether an object of a list has a shape in a version: True or False."""
    return is_shaped(objects, bound_names(version, binding), number, shape)


def names_right(state, version, binding):
    """Return whether anything is a binding of a version for a state: True or False."""
    if not isinstance(binding, (list, tuple)) or len(binding) != len(version.names()):
        return False
    many = len(state.objects())
    return all([is_index(number, many) for number in binding]) and len(binding) == len(set(binding))


def frame_at(program, version, binding, k, registers):
    """Return the plain frame of a point of a version."""
    return point_frame(compiled(program), version, binding, k, registers)


def told_frames(program, version, binding, end, registers):
    """Return the list of the told frames of an end as plain frames."""
    return end_frames(compiled(program), version, binding, end, registers)


def point_frame(codes, version, binding, k, registers):
    """Return the plain frame of a point of a version, where codes has the codes of the functions."""
    row, _, pairs = version.point(k)
    return plain_frame(codes, bound_names(version, binding), (version.function(), row, pairs), registers)


def end_frames(codes, version, binding, end, registers):
    """Return the list of the told frames of an end as plain frames, where codes has the codes of the functions."""
    names = bound_names(version, binding)
    return [plain_frame(codes, names, frame, registers) for frame in end[1]]


def plain_frame(codes, names, frame, registers):
    """Return the plain frame of a tuple of a function, a row and pairs of plain registers and places."""
    function, row, pairs = frame
    values = [NONE] * codes[function].registers()
    for number, place in pairs:
        values[number] = value_at(names, place, registers)
    return (function, row, tuple(values))


def value_at(names, place, registers):
    """Return the value of a place."""
    if place[0] == "reg":
        return registers[place[1]]
    return place[1] if place[0] == "value" else meaning_of(names, place)


def fits_point(state, version, binding, k):
    """Return whether the innermost frame of a state fits a point of a version: True or False."""
    return frame_fits(state.frames()[-1], version, binding, k, (state.objects(), state.global_values()))


def frame_fits(frame, version, binding, k, around):
    """Return whether a plain frame fits a point of a version, with the pair of objects and globals around it."""
    row, facts, pairs = version.point(k)
    function, number, values = frame
    if function != version.function() or number != row:
        return False
    names = bound_names(version, binding)
    registers = registers_from(version, pairs, values)
    for place, told in pairs:
        if values[place] != value_at(names, told, registers):
            return False
    objects, global_values = around
    return fits((objects, global_values, names, registers), facts)


def entered(state, version, binding, k):
    """Return the list of the quick registers after entering a point of a version."""
    return registers_from(version, version.point(k)[2], state.frames()[-1][2])


def registers_from(version, pairs, values):
    """Return the list of the quick registers, where those that are places have the values of plain registers."""
    registers = [NONE] * version.registers()
    for number, place in pairs:
        if place[0] == "reg":
            registers[place[1]] = values[number]
    return registers
