"""Starts of points, and what is judged of them (S8.1)."""

from shapeguess.alike import alike, pairing
from shapeguess.facts import fits
from shapeguess.points import bound_names, entered, fits_point, frame_at, names_right, told_frames
from shapeguess.quick import end_of, steps_told
from shapeguess.quickrun import quick_run
from shapeguess.rebuilding import held_of
from shapeguess.states import State
from shapeguess.steps import run, step
from shapeguess.terms import first_known
from shapeguess.working import Held, Thrown, Work


def judge_start(program, version, k, book, state, objects):
    """Return None for a start that shows that a point is not closed, "fit" for what is no start, or "closed"."""
    if not is_start(program, version, k, book, state, objects):
        return "fit"
    return "closed" if Race(program, version, k, state, objects).is_alike() else None


def is_start(program, version, k, book, state, objects):
    """Return whether a book, a state and anything as a binding are a start of a point."""
    if state.end() is not None or not names_right(state, version, objects):
        return False
    for kind in program.signature().kinds():
        if not all([book.has_token(value) for value in first_known(program, version, kind)]):
            return False
    scene = (state.objects(), state.global_values(), bound_names(version, objects), [])
    return fits(scene, version.watched()) and fits_point(state, version, objects, k)


class Race:
    """A quick run of the piece of a point and the plain run, which both begin at a start."""

    def __init__(self, program, version, k, state, binding):
        self._program = program
        self._version = version
        self._state = state
        self._binding = list(binding)
        registers = entered(state, version, binding, k)
        told = quick_run(program, state.book(), version, binding, k, registers, held_of(state))
        self._word, self._number, self._registers, self._held = told[:4]
        self._called = told[4:]

    def is_alike(self):
        """Return whether all conditions hold under which the point is closed for this start."""
        if self._word == "stuck":
            return False
        if self._word == "return":
            return self._returns_alike()
        # Where there are not so many steps, the plain run has an end, and no state with a frame is like that.
        plain, _ = run(self._state, steps_told(self._version, self._number))
        pairs = pairing(plain, self._with_frames(self._told_frames()))
        if pairs is None or not self._next_facts_hold():
            return False
        return self._word != "call" or self._calls_alike(plain, pairs)

    def _row(self):
        """Return the quick row that ended the quick run."""
        return self._version.row(self._number)

    def _told_frames(self):
        """Return the list of the frames that stand in the place of the innermost one behind the quick run."""
        if self._word == "link":
            return [frame_at(self._program, self._version, self._binding, self._row()[2], self._registers)]
        return told_frames(self._program, self._version, self._binding, end_of(self._row()), self._registers)

    def _with_frames(self, frames):
        """Return the state with what the quick run holds and these frames in the place of the innermost one."""
        objects, global_values, shown = self._held
        outer = self._state.frames()[:-1]
        return State(self._program, self._state.book(), outer + frames, objects, global_values, shown)

    def _next_facts_hold(self):
        """Return whether the facts of the next point, if there is one, hold."""
        if self._word not in ("link", "call"):
            return True
        _, facts, _ = self._version.point(self._row()[-1])
        objects, global_values, _ = self._held
        return fits((objects, global_values, bound_names(self._version, self._binding), self._registers), facts)

    def _calls_alike(self, plain, pairs):
        """Return whether the plain run calls the same function with the same arguments, by a pairing of objects."""
        name, number, places = plain.frames()[-1]
        work = Work(self._program, plain.book(), Held(plain.objects(), plain.global_values(), plain.shown()))
        try:
            # The frames are alike, so that this is a call or method row, too, and its arguments are paired.
            called, arguments = work.call(plain.code(name).row(number), places)
        except Thrown:
            return False
        return (called, tuple([paired_value(pairs, value) for value in arguments])) == self._called

    def _returns_alike(self):
        """Return whether the plain run returns from the frame, as the quick run does, with a like state."""
        depth = len(self._state.frames())
        state = self._state
        for _ in range(steps_told(self._version, self._number)):
            state = step(state)
            # Whether the frame is left is seen at once: no step takes it away and brings another one.
            if len(state.frames()) < depth:
                return False
        name, number, places = state.frames()[-1]
        row = state.code(name).row(number)
        if len(state.frames()) > depth or row[0] != "return":
            return False
        returning = (name, number, places[:row[1]] + (self._registers[self._row()[2]],) + places[row[1] + 1:])
        return alike(step(state), step(self._with_frames([returning])))


def paired_value(pairs, value):
    """Return the value that a pairing of objects pairs with a value."""
    return ("obj", pairs[value[1]]) if value[0] == "obj" else value
