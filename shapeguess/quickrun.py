"""Quick runs: what quick rows do (S7.4, S7.6)."""

from shapeguess.books import apply
from shapeguess.errors import BadVariant
from shapeguess.facts import fact_holds, is_shaped, meaning_of
from shapeguess.points import bound_names
from shapeguess.quick import row_of_point
from shapeguess.quickrows import quick_written_by
from shapeguess.working import Held, Thrown, call_of, change, result_of


class GoneBack(Exception):
    """A guess of a quick row fails, and the function goes on in plain rows."""


class Stuck(Exception):
    """A quick row cannot be carried out."""


def quick_step(program, book, version, binding, number, registers, held):
    """Carry out one quick row; return a tuple that begins with a word for what came of it."""
    row = version.row(number)
    work = QuickWork(program, book, bound_names(version, binding), registers, held)
    try:
        told = work.carry_out(row, number)
    except (Thrown, GoneBack):
        told = ("back", number)
    except Stuck:
        told = ("stuck", number)
    return told[:2] + (work.registers(), work.held()) + told[2:]


def quick_run(program, book, version, binding, k, registers, held):
    """Run the piece of a point; return the tuple of its last row."""
    return run_and_path(program, book, version, binding, k, registers, held)[0]


def run_path(program, book, version, binding, k, registers, held):
    """Run the piece of a point; return the list of the numbers of the rows that are carried out."""
    return run_and_path(program, book, version, binding, k, registers, held)[1]


def run_and_path(program, book, version, binding, k, registers, held):
    """Run the piece of a point; return the pair of the tuple of its last row and the list of its rows."""
    version.point(k)
    told = ("row", row_of_point(version, k) + 1, registers, held)
    path = []
    while told[0] == "row":
        path.append(told[1])
        told = quick_step(program, book, version, binding, told[1], told[2], told[3])
    return told, path


class QuickWork:
    """The registers and the held part while a quick row is carried out. A row that fails changes nothing."""

    def __init__(self, program, book, names, registers, held):
        self._program = program
        self._book = book
        self._names = names
        self._registers = list(registers)
        objects, global_values, shown = held
        self._held = Held(objects, global_values, shown)

    def registers(self):
        """Return the list of the quick registers."""
        return list(self._registers)

    def held(self):
        """Return the held part."""
        return self._held.parts()

    def carry_out(self, row, number):
        """Carry out a row; return a word, the number of the row that comes next or else its own, and what is called."""
        word = row[0]
        if word == "link" or word == "return":
            return (word, number)
        if word == "call" or word == "method":
            return ("call", number) + call_of(self._program, self._held, row, self._registers)
        if word == "stop":
            raise GoneBack()
        if word == "jump":
            return ("row", row[1])
        if word == "test" and not self._is_yes(row[1]):
            return ("row", row[2])
        if word == "check":
            self._check(row[1])
        elif quick_written_by(row):
            self._registers[row[1]] = self._result(row)
        elif word == "store" or word == "grow":
            self._check_shape(row[1], row[2])
            self._held.set_own(self._registers[row[1]], row[3], self._registers[row[4]])
        elif word != "test" and word != "point":
            change(self._held, row, self._registers)
        return ("row", number + 1)

    def _is_yes(self, place):
        """Return whether a register is yes."""
        value = self._registers[place]
        if value[0] != "bit":
            raise Stuck()
        return value[1] == "yes"

    def _check(self, fact):
        """Raise GoneBack unless a fact holds."""
        objects, global_values, _ = self._held.parts()
        if not fact_holds((objects, global_values, self._names, self._registers), fact):
            raise GoneBack()

    def _check_shape(self, place, shape):
        """Raise Stuck unless a register is an object of a shape."""
        value = self._registers[place]
        if value[0] != "obj" or not is_shaped(self._held.parts()[0], self._names, value[1], shape):
            raise Stuck()

    def _result(self, row):
        """Return what a row puts into its register."""
        if row[0] == "const":
            return meaning_of(self._names, row[2])
        if row[0] == "load":
            self._check_shape(row[2], row[3])
            # The shape has the field, so that the look-up ends at the object itself.
            return self._held.found(self._registers[row[2]], row[4])
        if row[0] == "variant":
            return self._applied(row[2], [self._registers[place] for place in row[3]])
        return result_of(self._book, self._held, row, self._registers)

    def _applied(self, variant, values):
        """Return the result of a variant for values."""
        try:
            return apply(self._book, variant, values)
        except BadVariant:
            raise Stuck() from None
