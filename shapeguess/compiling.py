"""Codes: the plain rows of functions (S2.4 to S2.6)."""

from shapeguess.errors import UnknownName
from shapeguess.plainrows import read_by, written_by
from shapeguess.rowmaker import RowMaker
from shapeguess.values import is_index


class Code:
    """The numbers of the parameters and registers of a function, its plain rows and its stretches."""

    def __init__(self, parameters, registers, rows, stretches):
        self._parameters = parameters
        self._registers = registers
        self._rows = tuple(rows)
        self._stretches = tuple(stretches)

    def parameters(self):
        """Return the number of the parameters."""
        return self._parameters

    def registers(self):
        """Return the number of the registers."""
        return self._registers

    def rows(self):
        """Return the list of the rows."""
        return list(self._rows)

    def stretches(self):
        """Return the list of the stretches."""
        return list(self._stretches)

    def row(self, number):
        """Return the row with this number, which may be anything."""
        if not is_index(number, len(self._rows)):
            raise UnknownName(number)
        return self._rows[number]

    def __eq__(self, other):
        if not isinstance(other, Code):
            return False
        if self._parameters != other._parameters or self._registers != other._registers:
            return False
        return self._rows == other._rows and self._stretches == other._stretches


def compiled(program):
    """Return the dict from the names of the functions to their codes, in the program's order."""
    return {function[0]: code_of(function) for function in program.functions()}


def code_of(function):
    """Return the code of one function."""
    maker = RowMaker(function)
    rows = maker.rows()
    stretches = maker.stretches()
    # The const and return at the end name a temporary, so no parameter is the greatest register.
    greatest = max([place for row in rows for place in places_in(row)])
    return Code(len(function[1]), greatest + 1, rows, stretches)


def places_in(row):
    """Return the list of the registers that occur in a row."""
    written = written_by(row)
    return read_by(row) if written is None else [written] + read_by(row)
