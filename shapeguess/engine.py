"""Engines, which run programs with cells and versions as they are told (S10.1 to S10.7)."""

from shapeguess.choices import can_do
from shapeguess.enginerun import first_run
from shapeguess.errors import BadChoice, BadState, NoFunction


class Engine:
    """A run of a program from a state, which changes with each choice."""

    def __init__(self, state, most):
        if state.end() is not None:
            raise BadState("end")
        self._first = state
        self._most = most
        self._run = first_run(state, most)
        self._steps = 0
        self._log = []

    def do(self, choice):
        """Make a choice; return the number of steps that it counted or, for a put, the number of the version."""
        if not can_do(self, choice):
            raise BadChoice()
        word = choice[0]
        counted = 0
        gone = []
        if word == "step":
            counted = self._run.step()
            gone = self._run.broken()
        elif word == "enter":
            self._run.enter(choice[1], choice[2])
        elif word == "back":
            self._run.leave()
        elif word == "clear":
            self._run.held().wipe(choice[1:])
        elif word == "put":
            self._run.put_in(choice[1], choice[2])
        else:
            gone = [choice[1]]
        self._complete(word, counted, gone)
        return len(self.versions()) - 1 if word == "put" else counted

    def _complete(self, word, counted, gone):
        """Do what comes behind each choice: versions are thrown away, and the log gets an entry."""
        for v in gone:
            self._run.throw_away(v)
        if self._run.is_in_thrown():
            self._run.leave()
        self._steps = self._steps + counted
        self._log.append((word, counted, tuple(gone)))

    def program(self):
        """Return the program."""
        return self._run.program()

    def rebuilt(self):
        """Return the rebuilt state."""
        return self._run.rebuilt()

    def steps(self):
        """Return the number of counted plain steps."""
        return self._steps

    def shown(self):
        """Return the list of the shown values."""
        return self._run.held().parts()[2]

    def end(self):
        """Return the end, or None."""
        return self._run.end()

    def log(self):
        """Return the list of the entries of the log."""
        return list(self._log)

    def frames(self):
        """Return the list of the frames: ("plain", function, row), ("point", v, k) or ("call", v, number)."""
        return [frame[:1] + frame[1][:2] if frame[0] == "plain" else frame[:3] for frame in self._run.frames()]

    def cells(self):
        """Return the dict from functions and rows to the entries of their cells."""
        cells = self._run.held().cells()
        return {place: cells[place].entries() for place in cells}

    def rises(self, function):
        """Return the sum of the rises of the cells of a function, whose name may be anything."""
        if function not in self.program().names():
            raise NoFunction(function)
        cells = self._run.held().cells()
        return sum([cells[place].rises() for place in cells if place[0] == function])

    def table(self):
        """Return a twin of the table of shapes."""
        return self._run.held().table()

    def versions(self):
        """Return the list of the tuples (version, objects, whether it is in) of the versions that were put in."""
        return self._run.versions()

    def fits(self, v, k):
        """Return whether the innermost frame, which is plain, fits a point of a version."""
        return self._run.fits(v, k)

    def twin(self):
        """Return another engine that is equal; later choices of one change nothing in the other."""
        other = Engine(self._first, self._most)
        other._run = self._run.twin()
        other._steps = self._steps
        other._log = list(self._log)
        return other

    def __eq__(self, other):
        if not isinstance(other, Engine) or self._most != other._most or self.rebuilt() != other.rebuilt():
            return False
        if self._run.frames() != other._run.frames() or self.versions() != other.versions():
            return False
        if self._run.held().told_cells() != other._run.held().told_cells():
            return False
        return self._steps == other._steps and self._log == other._log
