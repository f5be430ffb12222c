"""Programs as trees (S1.1 to S1.3)."""

from shapeguess.errors import BadTree, NoFunction
from shapeguess.forms import first_wrong_part
from shapeguess.naming import check_names, locals_in


class Program:
    """A signature and a list of functions, all of whose parts and names are right."""

    def __init__(self, signature, functions):
        path = first_wrong_part(functions)
        if path is not None:
            raise BadTree(path)
        check_names(signature, functions)
        self._signature = signature
        self._functions = tuple(functions)

    def signature(self):
        """Return the signature."""
        return self._signature

    def functions(self):
        """Return the list of the functions."""
        return list(self._functions)

    def names(self):
        """Return the list of the names of the functions."""
        return [function[0] for function in self._functions]

    def function(self, name):
        """Return the function with this name, which may be anything."""
        for function in self._functions:
            if function[0] == name:
                return function
        raise NoFunction(name)

    def __eq__(self, other):
        if not isinstance(other, Program):
            return False
        return self._signature == other._signature and self._functions == other._functions


def locals_of(program, name):
    """Return the list of the locals of the function with this name, which may be anything."""
    return locals_in(program.function(name))
