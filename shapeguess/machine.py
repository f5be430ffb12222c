"""The plain machine: it carries out plain rows (S3.3, S3.4)."""

from shapeguess.plainrows import CALLING, WRITING, stretch_over
from shapeguess.states import LaterState
from shapeguess.values import NONE
from shapeguess.working import Held, Thrown, call_of, change, result_of, truth


class Machine:
    """The parts of a state, which change while steps are made. The state itself stays as it is."""

    def __init__(self, state):
        self._before = state
        self._frames = state.frames()
        self._held = Held(state.objects(), state.global_values(), state.shown())
        self._end = state.end()

    def has_ended(self):
        """Return whether there is an end."""
        return self._end is not None

    def state(self):
        """Return the state that the steps have led to."""
        objects, global_values, shown = self._held.parts()
        return LaterState(self._before, self._frames, objects, global_values, shown, self._end)

    def step(self):
        """Make one step. There is no end yet."""
        name, number, places = self._frames[-1]
        row = self._before.code(name).row(number)
        try:
            self._carry_out(row, places)
        except Thrown as error:
            self._handle(error.thrown)

    def _carry_out(self, row, places):
        """Carry out a row of the innermost frame, whose registers are places."""
        word = row[0]
        if word in CALLING:
            self._call(row, places)
        elif word == "return":
            self._return(places[row[1]])
        elif word == "throw":
            raise Thrown(places[row[1]])
        elif word == "jump":
            self._stand_at(row[1])
        elif word == "test":
            self._test(places[row[1]], row[2])
        elif word in WRITING:
            self._write(row[1], result_of(self._before.book(), self._held, row, places))
        else:
            change(self._held, row, places)
            self._go_on()

    def _stand_at(self, number):
        """Let the innermost frame stand at a row."""
        name, _, places = self._frames[-1]
        self._frames[-1] = (name, number, places)

    def _go_on(self):
        """Let the innermost frame stand at its next row."""
        self._stand_at(self._frames[-1][1] + 1)

    def _write(self, place, value):
        """Put a value into a register of the innermost frame, which then stands at its next row."""
        name, number, places = self._frames[-1]
        self._frames[-1] = (name, number + 1, places[:place] + (value,) + places[place + 1:])

    def _test(self, value, number):
        """Carry out a test that leads to this row for no."""
        if truth(value):
            self._go_on()
        else:
            self._stand_at(number)

    def _call(self, row, places):
        """Carry out a call or method row that calls a function."""
        name, arguments = call_of(self._before.program(), self._held, row, places)
        rest = (NONE,) * (self._before.code(name).registers() - len(arguments))
        self._frames.append((name, 0, arguments + rest))

    def _return(self, value):
        """Take the innermost frame away and give its value to the frame that waits, or end."""
        self._frames.pop()
        if not self._frames:
            self._end = ("returned", value)
            return
        name, number, _ = self._frames[-1]
        self._write(self._before.code(name).row(number)[1], value)

    def _handle(self, value):
        """Let the innermost handler have a thrown value, or end."""
        while self._frames:
            name, number, _ = self._frames[-1]
            stretch = stretch_over(self._before.code(name).stretches(), number)
            if stretch is not None:
                self._write(stretch[3], value)
                self._stand_at(stretch[2])
                return
            self._frames.pop()
        self._end = ("thrown", value)
