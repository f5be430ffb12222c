"""Small versions for tests: quick rows put down by hand, whose quick registers are the registers of the function."""

from samples import program_of
from shapeguess.checking import check_version
from shapeguess.compiling import compiled
from shapeguess.live import live_at
from shapeguess.quick import Version

S0, S1, S2 = ("start", 0), ("start", 1), ("start", 2)


def val(v):
    return ("value", v)


def branch_of(*members):
    """The branch of questions and answers that are passed by turns."""
    return [(question, answer) for question, answer in zip(members[::2], members[1::2])]


class Piece:
    """Versions of one function of a program."""

    def __init__(self, text, function="main"):
        self.program = program_of(text)
        self.function = function
        self.code = compiled(self.program)[function]

    def places(self, row, **changed):
        """The places of the live registers of a row: the same quick registers, but for those that are passed as r2=.."""
        return tuple((r, changed.get(f"r{r}", ("reg", r))) for r in live_at(self.code, row))

    def end(self, steps, row, **changed):
        return (steps, ((self.function, row, self.places(row, **changed)),))

    def version(self, rows, facts=(), names=(), watched=(), points=(), at=0, more=4):
        """A version whose point 0 stands at a row and has these rows; points are pairs of further rows and facts.

        The further points have no rows but a stop.
        """
        every = [("point", 0)] + list(rows)
        told = [(at, tuple(facts), self.places(at))]
        for k, (row, those) in enumerate(points):
            every += [("point", k + 1), ("stop", self.end(0, row))]
            told.append((row, tuple(those), self.places(row)))
        version = Version(self.function, list(names), list(watched), self.code.registers() + more, every, told)
        check_version(self.program, version)
        return version
