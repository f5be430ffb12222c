"""The plain rows of the functions of a program, with the registers that are live or wait at them."""

from shapeguess.compiling import compiled
from shapeguess.live import live_lists, steps_in, waiting_behind
from shapeguess.values import is_index


class Lives:
    """What is asked again and again of a program's rows. The registers of a function are worked out once."""

    def __init__(self, program):
        self._signature = program.signature()
        self._codes = compiled(program)
        self._live = {}
        self._waiting = {}

    def signature(self):
        """Return the signature of the program."""
        return self._signature

    def has_function(self, name):
        """Return whether anything is the name of a function."""
        return isinstance(name, str) and name in self._codes

    def has_row(self, name, number):
        """Return whether name and number, which may be anything, tell a row of a function."""
        return self.has_function(name) and is_index(number, len(self._codes[name].rows()))

    def has_variant(self, name):
        """Return whether anything is the name of a variant."""
        primitives = self._signature.primitives()
        return name in [variant[0] for primitive in primitives for variant in self._signature.variants(primitive)]

    def row(self, name, number):
        """Return a row of a function."""
        return self._codes[name].row(number)

    def live(self, name, number):
        """Return the ascending list of the registers that are live at a row."""
        if name not in self._live:
            self._live[name] = live_lists(self._codes[name])
        return list(self._live[name][number])

    def waiting(self, name, number):
        """Return the ascending list of the registers that wait at a row."""
        if name not in self._waiting:
            live = [self.live(name, row) for row in range(len(self._codes[name].rows()))]
            self._waiting[name] = [waiting_behind(live, steps) for steps in steps_in(self._codes[name])]
        return list(self._waiting[name][number])
