"""The plain machine: frames that go on in plain rows (S3.3, S3.4)."""

from shapeguess.plainrows import CALLING, WRITING, stretch_over
from shapeguess.working import Thrown


class Machine:
    """Frames, which change while steps are made. What rows do with values, or with what stands for them, work tells."""

    def __init__(self, codes, frames, end, work):
        self._codes = {name: codes[name] for name in codes}
        self._frames = list(frames)
        self._end = end
        self._work = work

    def frames(self):
        """Return the list of the frames."""
        return list(self._frames)

    def end(self):
        """Return the end, or None."""
        return self._end

    def step(self):
        """Make one step. There is no end yet."""
        name, number, places = self._frames[-1]
        row = self._codes[name].row(number)
        try:
            self._follow(outcome_of(self._work, row, number, places))
        except Thrown as error:
            self._handle(error.thrown)

    def _follow(self, outcome):
        """Do with the frames what came of the row of the innermost one."""
        if outcome[0] == "at":
            self._frames[-1] = self._frames[-1][:1] + outcome[1:]
        elif outcome[0] == "call":
            self._frames.append(called_frame(self._codes, self._work.none(), outcome[1], outcome[2]))
        else:
            self._return(outcome[1])

    def _return(self, value):
        """Take the innermost frame away and give its value to the frame that waits, or end."""
        self._frames.pop()
        if self._frames:
            self._frames[-1] = with_returned(self._codes, self._frames[-1], value)
        else:
            self._end = ("returned", value)

    def _handle(self, value):
        """Let the innermost handler have a thrown value, or end."""
        while self._frames:
            handling = handling_frame(self._codes, self._frames.pop(), value)
            if handling is not None:
                self._frames.append(handling)
                return
        self._end = ("thrown", value)


def outcome_of(work, row, number, places):
    """Carry out the plain row with this number; return what comes of it, or raise Thrown.

    It is ("at", number, registers), where the frame stands then; ("call", name, arguments); or ("return", value).
    """
    word = row[0]
    if word in CALLING:
        return ("call",) + work.call(row, places)
    if word == "return":
        return ("return", places[row[1]])
    if word == "throw":
        raise Thrown(places[row[1]])
    if word == "jump":
        return ("at", row[1], places)
    if word == "test":
        return ("at", number + 1 if work.truth(places[row[1]]) else row[2], places)
    if word in WRITING:
        return ("at", number + 1, with_member(places, row[1], work.result(row, places)))
    work.change(row, places)
    return ("at", number + 1, places)


def with_member(members, at, value):
    """Return a tuple with another member at a place."""
    return members[:at] + (value,) + members[at + 1:]


def called_frame(codes, none, name, arguments):
    """Return the frame of a function that was called, whose registers are none but for the arguments."""
    return (name, 0, arguments + (none,) * (codes[name].registers() - len(arguments)))


def with_returned(codes, frame, value):
    """Return a frame that waits as it stands when it got the value of its call."""
    name, number, places = frame
    return (name, number + 1, with_member(places, codes[name].row(number)[1], value))


def handling_frame(codes, frame, value):
    """Return a frame as it stands when it handles a thrown value, or None if no stretch covers its row."""
    name, number, places = frame
    stretch = stretch_over(codes[name].stretches(), number)
    if stretch is None:
        return None
    return (name, stretch[2], with_member(places, stretch[3], value))
