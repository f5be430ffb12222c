"""The run of a program as trees, without registers and jumps (S3.6)."""

from shapeguess.rowmaker import operands_of, result_row, statement_row
from shapeguess.states import start
from shapeguess.values import NONE
from shapeguess.working import Held, Thrown, Work

CALLS = ("call", "method")


def tree_run(program, book, function, arguments, limit):
    """Run a function as trees; return its shown values and its end, or None as the end behind limit turns."""
    # A run by rows would begin at this state; what is wrong for the one is wrong for the other.
    start(program, book, function, arguments)
    run = TreeRun(program, book, limit)
    run.enter(function, arguments)
    run.go()
    return run.shown(), run.end()


class TreeRun:
    """A run that goes on. Tasks on a stack stand for what is still to be done, since calls may be nested deep."""

    def __init__(self, program, book, limit):
        self._program = program
        self._work = Work(program, book, Held([], {}, []))
        self._turns_left = limit
        self._tasks = []
        # The values of operands, until what they belong to is complete.
        self._values = []
        self._names = {}
        self._end = None

    def shown(self):
        """Return the list of the shown values."""
        return self._work.held().parts()[2]

    def end(self):
        """Return the end, or None."""
        return self._end

    def enter(self, function, arguments):
        """Let the body of a function come next, and remember what its caller needs behind it."""
        _, parameters, body = self._program.function(function)
        self._tasks.append(("leave", self._names, len(self._values)))
        self._names = {name: value for name, value in zip(parameters, arguments)}
        self._plan("part", body)

    def go(self):
        """Carry out tasks until there is an end or the turns are used up."""
        while self._tasks:
            task = self._tasks.pop()
            if task[0] == "part":
                if self._turns_left <= 0:
                    return
                self._turns_left = self._turns_left - 1
            try:
                self._carry_out(task)
            except Thrown as error:
                self._handle(error.thrown)
        if self._end is None:
            self._end = ("returned", self._values[0])

    def _plan(self, word, parts):
        """Let tasks of this word come next, the first part first."""
        self._tasks.extend([(word, part) for part in parts[::-1]])

    def _carry_out(self, task):
        """Carry out one task."""
        word = task[0]
        if word == "part":
            self._begin(task[1])
        elif word == "finish":
            self._finish(task[1])
        elif word == "again":
            self._begin_operands(task[1])
        elif word == "leave":
            self._leave(task, NONE)

    def _begin(self, part):
        """Begin an expression or a statement, which takes a turn."""
        word = part[0]
        if word == "name":
            self._values.append(self._names.get(part[1], NONE))
        elif word == "try":
            self._tasks.append(("catch", part, len(self._values)))
            self._plan("part", part[1])
        else:
            self._begin_operands(part)

    def _begin_operands(self, part):
        """Let the expressions whose values a part needs come next, and then the part itself."""
        self._tasks.append(("finish", part))
        self._plan("part", parts_before(part))

    def _finish(self, part):
        """Complete an expression or a statement whose operands have their values."""
        values = self._taken(len(parts_before(part)))
        word = part[0]
        if word == "let":
            self._names[part[1]] = values[0]
        elif word == "if":
            self._plan("part", part[2] if self._work.truth(values[0]) else part[3])
        elif word == "while":
            if self._work.truth(values[0]):
                self._tasks.append(("again", part))
                self._plan("part", part[2])
        elif word == "return":
            self._return(values[0])
        elif word == "throw":
            raise Thrown(values[0])
        elif word in ("put", "set", "drop", "show"):
            self._work.change(statement_row(part, list(range(len(values)))), values)
        elif word != "do":
            self._finish_expression(part, values)

    def _finish_expression(self, part, values):
        """Complete an expression other than a name."""
        row = result_row(part, None, list(range(len(values))))
        if part[0] in CALLS:
            name, arguments = self._work.call(row, values)
            self.enter(name, arguments)
        else:
            self._values.append(self._work.result(row, values))

    def _taken(self, many):
        """Take the last values away and return them as a list."""
        first = len(self._values) - many
        values = self._values[first:]
        self._values = self._values[:first]
        return values

    def _leave(self, task, value):
        """Go back to the caller that a task remembers, with the value of the call."""
        self._names = task[1]
        self._values = self._values[:task[2]] + [value]

    def _return(self, value):
        """Leave out what is still to be done in the innermost function."""
        task = self._tasks.pop()
        while task[0] != "leave":
            task = self._tasks.pop()
        self._leave(task, value)

    def _handle(self, value):
        """Let the innermost try around have a thrown value, or end."""
        while self._tasks:
            task = self._tasks.pop()
            if task[0] == "leave":
                self._names = task[1]
            elif task[0] == "catch":
                self._values = self._values[:task[2]]
                self._names[task[1][2]] = value
                self._plan("part", task[1][3])
                return
        self._end = ("thrown", value)


def parts_before(part):
    """Return the list of the expressions whose values an expression or statement needs, in order."""
    if part[0] == "let":
        return [part[2]]
    if part[0] == "if" or part[0] == "while":
        return [part[1]]
    return operands_of(part)
