"""The plain rows of one function (S2.5, S2.6)."""

from shapeguess.naming import locals_in
from shapeguess.values import NONE


def operands_of(part):
    """Return the list of the operands of an expression or of a statement without statements inside."""
    word = part[0]
    if word in ("get", "new", "drop", "show", "return", "throw", "do"):
        return [part[1]]
    if word == "same":
        return [part[1], part[2]]
    if word == "set":
        return [part[1], part[3]]
    if word == "put":
        return [part[2]]
    if word == "prim":
        return list(part[2])
    if word == "call" or word == "method":
        return [part[1]] + list(part[-1])
    return []


def result_row(part, target, places):
    """Return the row that puts the result of an expression into target, where places has its operands' registers."""
    word = part[0]
    if word == "value":
        return ("const", target, part[1])
    if word == "global":
        return (word, target, part[1])
    if word == "prim":
        return (word, target, part[1], tuple(places))
    if word == "call":
        return (word, target, places[0], tuple(places[1:]))
    if word == "method":
        return (word, target, places[0], part[2], tuple(places[1:]))
    if word == "get":
        return (word, target, places[0], part[2])
    return (word, target) + tuple(places)


def statement_row(part, places):
    """Return the row of a simple statement other than let and do, where places has its operands' registers."""
    word = part[0]
    if word == "put":
        return (word, part[1], places[0])
    if word == "set":
        return (word, places[0], part[2], places[1])
    if word == "drop":
        return (word, places[0], part[2])
    return (word, places[0])


class RowMaker:
    """The rows and stretches of a function while they are made."""

    def __init__(self, function):
        self._numbers = {name: number for number, name in enumerate(locals_in(function))}
        self._rows = []
        self._stretches = []
        self._statements(function[2])
        first = len(self._numbers)
        self._rows.append(("const", first, NONE))
        self._rows.append(("return", first))

    def rows(self):
        """Return the list of the rows."""
        return list(self._rows)

    def stretches(self):
        """Return the list of the stretches."""
        return list(self._stretches)

    def _expression(self, part, target, free):
        """Make the rows that put an expression into target, with free as the next free temporary."""
        if part[0] != "name":
            places = self._places(operands_of(part), free)
            self._rows.append(result_row(part, target, places))
        elif self._numbers[part[1]] != target:
            self._rows.append(("move", target, self._numbers[part[1]]))

    def _places(self, operands, free):
        """Make the rows of operands, with free as the next free temporary, and return the list of their registers."""
        places = []
        for operand in operands:
            if operand[0] == "name":
                places.append(self._numbers[operand[1]])
            else:
                self._expression(operand, free, free)
                places.append(free)
                free = free + 1
        return places

    def _condition(self, expression):
        """Make the rows of a condition and return its register."""
        return self._places([expression], len(self._numbers))[0]

    def _statements(self, statements):
        """Make the rows of statements."""
        for statement in statements:
            self._statement(statement)

    def _statement(self, statement):
        """Make the rows of one statement."""
        word = statement[0]
        if word == "let":
            self._expression(statement[2], self._numbers[statement[1]], len(self._numbers))
        elif word == "if":
            self._choice(statement)
        elif word == "while":
            self._loop(statement)
        elif word == "try":
            self._attempt(statement)
        else:
            self._simple_statement(statement)

    def _simple_statement(self, statement):
        """Make the rows of a statement without statements inside, other than a let."""
        places = self._places(operands_of(statement), len(self._numbers))
        if statement[0] != "do":
            self._rows.append(statement_row(statement, places))

    def _choice(self, statement):
        """Make the rows of an if."""
        place = self._condition(statement[1])
        test = self._later()
        self._statements(statement[2])
        if statement[3]:
            jump = self._later()
            self._rows[test] = ("test", place, len(self._rows))
            self._statements(statement[3])
            self._rows[jump] = ("jump", len(self._rows))
        else:
            self._rows[test] = ("test", place, len(self._rows))

    def _loop(self, statement):
        """Make the rows of a while."""
        first = len(self._rows)
        place = self._condition(statement[1])
        test = self._later()
        self._statements(statement[2])
        self._rows.append(("jump", first))
        self._rows[test] = ("test", place, len(self._rows))

    def _attempt(self, statement):
        """Make the rows and the stretch of a try."""
        first = len(self._rows)
        self._statements(statement[1])
        jump = self._later()
        self._statements(statement[3])
        self._rows[jump] = ("jump", len(self._rows))
        if jump > first:
            self._stretches.append((first, jump, jump + 1, self._numbers[statement[2]]))

    def _later(self):
        """Leave room for a row that leads to a row whose number is not known yet, and return its own number."""
        self._rows.append(())
        return len(self._rows) - 1
