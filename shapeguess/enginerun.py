"""The frames of an engine, plain ones and such in versions, and their steps (S10.1, S10.3, S10.4)."""

from shapeguess.cellheld import CellHeld, first_cells
from shapeguess.errors import StuckRow
from shapeguess.facts import fits
from shapeguess.machine import called_frame, handling_frame, outcome_of, with_member, with_returned
from shapeguess.objects import Heap
from shapeguess.points import bound_names, frame_fits, registers_from
from shapeguess.quick import steps_told
from shapeguess.quickrun import quick_run
from shapeguess.rebuilding import plain_frames
from shapeguess.shapes import Shapes
from shapeguess.states import LaterState
from shapeguess.values import NONE
from shapeguess.working import Thrown, Work


def first_run(state, most):
    """Return the run that begins at a state, with cells of at most so many entries."""
    codes = state.codes()
    held = CellHeld(Heap(Shapes(), state.objects()), first_cells(codes, most), state.global_values(), state.shown())
    return EngineRun(state, held, [("plain", frame) for frame in state.frames()], None, [])


class EngineRun:
    """What changes while an engine runs.

    A frame is ("plain", frame); ("point", v, k, registers) at a point of version v; or ("call", v, number, registers),
    which waits at a row of it. A version is kept as a tuple (version, objects, whether it is in).
    """

    def __init__(self, first, held, frames, end, versions):
        self._first = first
        self._codes = first.codes()
        self._held = held
        self._frames = list(frames)
        self._end = end
        self._versions = list(versions)

    def twin(self):
        """Return an equal run; later changes of one change nothing in the other."""
        return EngineRun(self._first, self._held.twin(), self._frames, self._end, self._versions)

    def program(self):
        """Return the program."""
        return self._first.program()

    def book(self):
        """Return the book."""
        return self._first.book()

    def held(self):
        """Return what holds the objects, globals, shown values and cells."""
        return self._held

    def frames(self):
        """Return the list of the frames."""
        return list(self._frames)

    def end(self):
        """Return the end, or None."""
        return self._end

    def versions(self):
        """Return the list of the tuples of a version, the objects to which its names are bound and whether it is in."""
        return list(self._versions)

    def rebuilt(self):
        """Return the rebuilt state."""
        frames = [plain for frame in self._frames for plain in self._plain(frame)]
        objects, global_values, shown = self._held.parts()
        return LaterState(self._first, frames, objects, global_values, shown, self._end)

    def fits(self, v, k):
        """Return whether the innermost frame, which is plain, fits a point of a version."""
        version, objects, _ = self._versions[v]
        return frame_fits(self._frames[-1][1], version, objects, k, self._held.parts()[:2])

    def enter(self, v, k):
        """Let the innermost frame, which is plain, be in a version at a point that it fits."""
        version = self._versions[v][0]
        registers = registers_from(version, version.point(k)[2], self._frames[-1][1][2])
        self._frames[-1] = ("point", v, k, tuple(registers))

    def leave(self):
        """Let the innermost frame, which is in a version, be the plain frame of its point."""
        self._frames[-1] = ("plain", self._plain(self._frames[-1])[0])

    def put_in(self, version, objects):
        """Put a version in whose names are bound to objects."""
        self._versions.append((version, objects, True))

    def throw_away(self, v):
        """Throw a version away."""
        self._versions[v] = self._versions[v][:2] + (False,)

    def broken(self):
        """Return the list of the numbers of the versions that are in, but of which a watched fact does not hold."""
        watching = [v for v, (version, _, is_in) in enumerate(self._versions) if is_in and version.watched()]
        if not watching:
            return []
        objects, global_values, _ = self._held.parts()
        return [v for v in watching if not self._is_watched_right(v, objects, global_values)]

    def _is_watched_right(self, v, objects, global_values):
        """Return whether all watched facts of a version hold with these objects and globals."""
        version, bound, _ = self._versions[v]
        return fits((objects, global_values, bound_names(version, bound), []), version.watched())

    def is_in_thrown(self):
        """Return whether the innermost frame is in a version that was thrown away."""
        if not self._frames or self._frames[-1][0] == "plain":
            return False
        return not self._versions[self._frames[-1][1]][2]

    def step(self):
        """Make a step; return the number of plain steps that it counts."""
        frame = self._frames[-1]
        if frame[0] == "point":
            return self._quick_step(frame)
        name, number, places = frame[1]
        self._held.stand_at((name, number))
        work = Work(self.program(), self.book(), self._held)
        try:
            self._follow(name, outcome_of(work, self._codes[name].row(number), number, places))
        except Thrown as error:
            self._handle(error.thrown)
        return 1

    def _follow(self, name, outcome):
        """Do with the frames what came of the plain row of the innermost one, which is one of a function."""
        if outcome[0] == "at":
            self._frames[-1] = ("plain", (name,) + outcome[1:])
        elif outcome[0] == "call":
            self._call(outcome[1], outcome[2])
        else:
            self._return(outcome[1])

    def _quick_step(self, frame):
        """Carry out the piece of the point at which the innermost frame stands; return the steps that it counts."""
        _, v, k, registers = frame
        version, objects, _ = self._versions[v]
        told = quick_run(self.program(), self.book(), version, objects, k, registers, self._held.parts())
        word, number, registers, parts = told[:4]
        if word == "stuck":
            raise StuckRow(number)
        self._held.become(parts)
        row = version.row(number)
        if word == "link":
            self._frames[-1] = ("point", v, row[2], tuple(registers))
        elif word == "back":
            self._frames.pop()
            back = plain_frames(self._codes, ("call", version, objects, number, registers))
            self._frames.extend([("plain", plain) for plain in back])
        elif word == "return":
            self._return(registers[row[2]])
        else:
            self._frames[-1] = ("call", v, number, tuple(registers))
            self._call(told[4], told[5])
        # A return and a call are a plain step more.
        return steps_told(version, number) + (0 if word == "link" or word == "back" else 1)

    def _call(self, name, arguments):
        """Begin a function in a plain frame."""
        self._frames.append(("plain", called_frame(self._codes, NONE, name, arguments)))

    def _return(self, value):
        """Take the innermost frame away and give its value to the frame that waits, or end."""
        self._frames.pop()
        if not self._frames:
            self._end = ("returned", value)
        elif self._frames[-1][0] == "plain":
            self._frames[-1] = ("plain", with_returned(self._codes, self._frames[-1][1], value))
        else:
            _, v, number, registers = self._frames[-1]
            row = self._versions[v][0].row(number)
            self._frames[-1] = ("point", v, row[-1], with_member(registers, row[1], value))

    def _handle(self, value):
        """Let the innermost handler have a thrown value, or end. Frames through which it is thrown are plain first."""
        while self._frames:
            handling = handling_frame(self._codes, self._plain(self._frames.pop())[0], value)
            if handling is not None:
                self._frames.append(("plain", handling))
                return
        self._end = ("thrown", value)

    def _plain(self, frame):
        """Return the list of the plain frames for which a frame stands."""
        if frame[0] == "plain":
            return [frame[1]]
        word, v, number, registers = frame
        version, objects, _ = self._versions[v]
        return plain_frames(self._codes, (word, version, objects, number, registers))
