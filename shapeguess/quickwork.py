"""What quick rows do (S7.4)."""

from shapeguess.books import apply
from shapeguess.errors import BadVariant
from shapeguess.facts import fact_holds, is_shaped, meaning_of
from shapeguess.machine import with_member
from shapeguess.plainrows import CALLING
from shapeguess.quickrows import quick_written_by
from shapeguess.working import Thrown, Work


class GoneBack(Exception):
    """A guess of a quick row fails, and the function goes on in plain rows."""


class Stuck(Exception):
    """A quick row cannot be carried out."""


def quick_outcome(work, row, number, places):
    """Carry out the quick row with this number; return what comes of it, or raise GoneBack, Thrown or Stuck.

    It is ("row", next number, registers); or "link" or "return" with this row's number and the registers; or "call"
    with these, a name and arguments. What the row does with values, or with what stands for them, work tells.
    """
    word = row[0]
    if word == "link" or word == "return":
        return (word, number, places)
    if word in CALLING:
        return ("call", number, places) + work.call(row, places)
    if word == "stop":
        raise GoneBack()
    if word == "jump":
        return ("row", row[1], places)
    if word == "test":
        return ("row", number + 1 if is_yes(work, places[row[1]]) else row[2], places)
    if word == "check":
        if not work.holds(row[1], places):
            raise GoneBack()
    elif word == "store" or word == "grow":
        work.write_own(places[row[1]], row[2], row[3], places[row[4]])
    elif quick_written_by(row):
        places = with_member(places, row[1], quick_result(work, row, places))
    elif word != "point":
        work.change(row, places)
    return ("row", number + 1, places)


def is_yes(work, value):
    """Return whether a bit is yes."""
    try:
        return work.truth(value)
    except Thrown:
        raise Stuck() from None


def quick_result(work, row, places):
    """Return what a quick row puts into its register."""
    if row[0] == "const":
        return work.meaning(row[2])
    if row[0] == "load":
        return work.read_own(places[row[2]], row[3], row[4])
    if row[0] == "variant":
        return work.applied(row[2], [places[place] for place in row[3]])
    return work.result(row, places)


class QuickWork(Work):
    """What plain and quick rows do with values, where names stand for objects."""

    def __init__(self, program, book, names, held):
        Work.__init__(self, program, book, held)
        self._names = {name: names[name] for name in names}

    def meaning(self, mark):
        """Return the value that a mark means."""
        return meaning_of(self._names, mark)

    def holds(self, fact, places):
        """Return whether a register fact holds."""
        objects, global_values, _ = self._held.parts()
        return fact_holds((objects, global_values, self._names, places), fact)

    def read_own(self, value, shape, field):
        """Return the content of a field of a shape in an object that must have the shape."""
        self._check_shape(value, shape)
        # The shape has the field, so that the look-up ends at the object itself.
        return self._held.found(value, field)

    def write_own(self, value, shape, field, content):
        """Give a field a content in an object that must have the shape."""
        self._check_shape(value, shape)
        self._held.set_own(value, field, content)

    def applied(self, variant, values):
        """Return the result of a variant for values, which must be tokens of its kinds."""
        try:
            return apply(self._book, variant, values)
        except BadVariant:
            raise Stuck() from None

    def _check_shape(self, value, shape):
        """Raise Stuck unless a value is an object of a shape."""
        if value[0] != "obj" or not is_shaped(self._held.parts()[0], self._names, value[1], shape):
            raise Stuck()
