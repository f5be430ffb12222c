"""S3.6 as a small model: runs a program directly as trees, to compare the run by rows with it."""

from samples import NONE, NO, YES

TABLES = ("addnum", "paint", "negnum", "lessnum")


class Throw(Exception):
    def __init__(self, value):
        super().__init__()
        self.value = value


class Return(Exception):
    def __init__(self, value):
        super().__init__()
        self.value = value


class Stop(Exception):
    pass


def error(word):
    raise Throw(("err", word))


class TreeRun:
    def __init__(self, program, book, turns):
        self.program = program
        self.book = book
        self.turns = turns
        self.objects = []
        self.globals = {}
        self.shown = []
        self.end = None

    def main(self, function, arguments):
        try:
            self.end = ("returned", self.call(function, arguments))
        except Throw as thrown:
            self.end = ("thrown", thrown.value)
        except Stop:
            pass
        return self

    def turn(self):
        self.turns -= 1
        if self.turns < 0:
            raise Stop()

    def call(self, function, arguments):
        _, parameters, body = self.program.function(function)
        names = dict(zip(parameters, arguments))
        try:
            self.statements(body, names)
        except Return as returned:
            return returned.value
        return NONE

    def statements(self, statements, names):
        for statement in statements:
            self.statement(statement, names)

    def statement(self, s, names):
        self.turn()
        word = s[0]
        if word == "let":
            names[s[1]] = self.value(s[2], names)
        elif word == "put":
            self.globals[s[1]] = self.value(s[2], names)
        elif word == "set":
            target = self.value(s[1], names)
            value = self.value(s[3], names)
            self.object(target)["fields"][s[2]] = value
        elif word == "drop":
            fields = self.object(self.value(s[1], names))["fields"]
            if s[2] not in fields:
                error("field")
            del fields[s[2]]
        elif word == "if":
            self.statements(s[2] if self.condition(s[1], names) else s[3], names)
        elif word == "while":
            while self.condition(s[1], names):
                self.statements(s[2], names)
        elif word == "return":
            raise Return(self.value(s[1], names))
        elif word == "throw":
            raise Throw(self.value(s[1], names))
        elif word == "show":
            self.shown.append(self.value(s[1], names))
        elif word == "do":
            self.value(s[1], names)
        else:
            try:
                self.statements(s[1], names)
            except Throw as thrown:
                names[s[2]] = thrown.value
            else:
                return
            self.statements(s[3], names)

    def condition(self, e, names):
        value = self.value(e, names)
        if value not in (YES, NO):
            error("bit")
        return value == YES

    def value(self, e, names):
        self.turn()
        word = e[0]
        if word == "name":
            return names.get(e[1], NONE)
        if word == "value":
            return e[1]
        if word == "global":
            return self.globals[e[1]] if e[1] in self.globals else error("global")
        if word == "prim":
            return self.applied(e[1], [self.value(arg, names) for arg in e[2]])
        first = self.value(e[1], names)
        if word == "get":
            return self.found(first, e[2])
        if word == "new":
            return self.made(first)
        if word == "same":
            return YES if first == self.value(e[2], names) else NO
        arguments = [self.value(arg, names) for arg in e[-1]]
        if word == "method":
            arguments = [first] + arguments
            first = self.found(first, e[2])
        if first[0] != "fun" or first[1] not in self.program.names():
            error("function")
        if len(arguments) != len(self.program.function(first[1])[1]):
            error("count")
        return self.call(first[1], arguments)

    def object(self, value):
        return self.objects[value[1]] if value[0] == "obj" else error("object")

    def found(self, value, field):
        plain = self.object(value)
        while field not in plain["fields"]:
            if plain["parent"] is None:
                error("field")
            plain = self.objects[plain["parent"]]
        return plain["fields"][field]

    def above(self, number):
        parent = self.objects[number]["parent"]
        return 0 if parent is None else 1 + self.above(parent)

    def made(self, value):
        parent = None
        if value != NONE:
            self.object(value)
            parent = value[1]
            if self.above(parent) == 2:
                error("deep")
        self.objects.append({"parent": parent, "fields": {}})
        return ("obj", len(self.objects) - 1)

    def applied(self, primitive, values):
        kinds = tuple(value[1] if value[0] == "tok" else value[0] for value in values)
        for variant, wanted, result in self.book.signature().variants(primitive):
            if wanted == kinds:
                at = values[0][2]
                if len(values) == 2:
                    at = at * self.book.size(kinds[1]) + values[1][2]
                entry = self.book.table(variant)[at]
                return ("bit", entry) if result == "bit" else ("tok", result, entry)
        return error("kind")
