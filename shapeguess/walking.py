"""The quick walk and the plain walk of a branch (S8.6)."""

from shapeguess.grounds import NONE_TERM
from shapeguess.machine import Machine
from shapeguess.plainrows import CALLING
from shapeguess.quick import end_of, row_of_point
from shapeguess.quickwork import GoneBack, Stuck, quick_outcome
from shapeguess.termwork import TermWork
from shapeguess.working import Thrown


class QuickWalk:
    """The quick run of the piece of a point in terms. Where it needs what the branch does not tell, Needed is raised.

    The outcome tells how it ends: "back", "stuck", "link", "return" or "call".
    """

    def __init__(self, branch):
        self._ground = branch.ground()
        self._work = TermWork(branch)
        self._number = row_of_point(self._ground.version(), branch.point().k()) + 1
        self._terms = start_places(branch)
        self._called = None
        self._word = "row"

    def go(self):
        """Carry out rows up to the one that ends the walk."""
        while self._word == "row":
            try:
                told = quick_outcome(self._work, self.row(), self._number, self._terms)
                self._word, self._number, self._terms = told[:3]
                self._called = told[3:]
            except (Thrown, GoneBack):
                self._word = "back"
            except Stuck:
                self._word = "stuck"

    def outcome(self):
        """Return how the walk ended."""
        return self._word

    def row_number(self):
        """Return the number of the row at which the walk is."""
        return self._number

    def row(self):
        """Return the row at which the walk is."""
        return self._ground.row(self._number)

    def held(self):
        """Return what holds the objects, globals and shown values."""
        return self._work.held()

    def called(self):
        """Return the tuple (name, arguments) of what the last row calls."""
        return self._called

    def steps(self):
        """Return the number of plain steps that the last row or its end tells."""
        row = self.row()
        return row[1] if self._word in ("link", "return") else end_of(row)[0]

    def term_at(self, q):
        """Return the term in a quick register."""
        return self._terms[q]

    def next_facts_hold(self):
        """Return whether all facts of the next point hold. What each of them needs is needed, also if one fails."""
        row = self.row()
        if self._word not in ("link", "call"):
            return True
        _, facts, _ = self._ground.version().point(row[-1])
        return all([self._work.holds(fact, self._terms) for fact in facts])

    def told_frames(self):
        """Return the list of the frames (function, row, pairs) of a link or an end, with terms in the pairs."""
        row = self.row()
        version = self._ground.version()
        frames = end_of(row)[1] if self._word != "link" else ()
        if self._word == "link":
            number, _, pairs = version.point(row[2])
            frames = ((version.function(), number, pairs),)
        return [(name, number, told_pairs(self._ground, pairs, self._terms)) for name, number, pairs in frames]


class PlainWalk:
    """The plain run from a point in terms. Where it needs what the branch does not tell, Needed is raised."""

    def __init__(self, branch):
        self._ground = branch.ground()
        version = self._ground.version()
        name = version.function()
        number = version.point(branch.point().k())[0]
        places = [NONE_TERM] * self._ground.codes()[name].registers()
        for at, term in told_pairs(self._ground, branch.point().pairs(), start_places(branch)):
            places[at] = term
        self._work = TermWork(branch)
        self._machine = Machine(self._ground.codes(), [(name, number, tuple(places))], None, self._work)

    def go(self, steps):
        """Make as many steps, or fewer if the frame at which the walk begins is left."""
        for _ in range(steps):
            if self.has_left():
                return
            self._machine.step()

    def has_left(self):
        """Return whether the frame at which the walk began is left."""
        return self._machine.end() is not None

    def held(self):
        """Return what holds the objects, globals and shown values."""
        return self._work.held()

    def frames(self):
        """Return the list of the frames, from the one at which the walk began."""
        return self._machine.frames()

    def row(self):
        """Return the plain row at which the innermost frame stands."""
        name, number, _ = self.frames()[-1]
        return self._ground.codes()[name].row(number)

    def returned(self):
        """Return the term that the frame at which the walk began returns next, or None if it does not do so."""
        if len(self.frames()) != 1 or self.row()[0] != "return":
            return None
        return self.frames()[0][2][self.row()[1]]

    def called(self):
        """Return the tuple (name, arguments) of what the next row calls, or None if it calls nothing."""
        if self.has_left() or self.row()[0] not in CALLING:
            return None
        try:
            return self._work.call(self.row(), self.frames()[-1][2])
        except Thrown:
            return None


def start_places(branch):
    """Return the tuple of the terms in the quick registers at the beginning of a piece."""
    point = branch.point()
    many = branch.ground().version().registers()
    return tuple([point.start_at(q) if point.has_start(q) else NONE_TERM for q in range(many)])


def told_pairs(ground, pairs, places):
    """Return the list of the pairs of a plain register and the term of its place."""
    found = []
    for at, place in pairs:
        if place[0] == "reg":
            found.append((at, places[place[1]]))
        else:
            found.append((at, ground.mark_term(place if place[0] == "name" else place[1])))
    return found
