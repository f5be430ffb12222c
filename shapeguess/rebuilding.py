"""Rebuilt states: the plain state for which frames in versions stand (S7.8)."""

from shapeguess.compiling import compiled
from shapeguess.points import end_frames, point_frame
from shapeguess.quick import end_of
from shapeguess.states import State


def held_of(state):
    """Return the held part of a state."""
    return (state.objects(), state.global_values(), state.shown())


def rebuilt(program, book, layout, held):
    """Return the state for which a layout and a held part stand."""
    codes = compiled(program)
    frames = []
    for member in layout:
        frames.extend(plain_frames(codes, member))
    objects, global_values, shown = held
    return State(program, book, frames, objects, global_values, shown)


def plain_frames(codes, member):
    """Return the list of the plain frames for which a member of a layout stands, where codes has all codes."""
    if member[0] == "plain":
        return [member[1]]
    word, version, binding, number, registers = member
    if word == "point":
        return [point_frame(codes, version, binding, number, registers)]
    return end_frames(codes, version, binding, end_of(version.row(number)), registers)
