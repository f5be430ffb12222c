"""The plain machine: it carries out plain rows (S3.3, S3.4)."""

from shapeguess.books import apply
from shapeguess.plainobjects import MOST_ABOVE, count_above, has_field, look_up_in, with_field, without_field
from shapeguess.plainrows import CALLING, WRITING, stretch_over
from shapeguess.signatures import variant_for
from shapeguess.states import LaterState
from shapeguess.values import NONE, bit, kind_of


class Thrown(Exception):
    """A row throws a value of the language."""

    def __init__(self, thrown):
        Exception.__init__(self, "a row throws a value")
        self.thrown = thrown


class Machine:
    """The parts of a state, which change while steps are made. The state itself stays as it is."""

    def __init__(self, state):
        self._before = state
        self._frames = state.frames()
        self._objects = state.objects()
        self._globals = state.global_values()
        self._shown = state.shown()
        self._end = state.end()

    def has_ended(self):
        """Return whether there is an end."""
        return self._end is not None

    def state(self):
        """Return the state that the steps have led to."""
        return LaterState(self._before, self._frames, self._objects, self._globals, self._shown, self._end)

    def step(self):
        """Make one step. There is no end yet."""
        name, number, places = self._frames[-1]
        row = self._before.code(name).row(number)
        try:
            self._carry_out(row, places)
        except Thrown as error:
            self._handle(error.thrown)

    def _carry_out(self, row, places):
        """Carry out a row of the innermost frame, whose registers are places."""
        word = row[0]
        if word in CALLING:
            self._call(row, places)
        elif word == "return":
            self._return(places[row[1]])
        elif word == "throw":
            raise Thrown(places[row[1]])
        elif word == "jump":
            self._stand_at(row[1])
        elif word == "test":
            self._test(places[row[1]], row[2])
        elif word in WRITING:
            self._write(row[1], self._result(row, places))
        else:
            self._change(row, places)
            self._go_on()

    def _stand_at(self, number):
        """Let the innermost frame stand at a row."""
        name, _, places = self._frames[-1]
        self._frames[-1] = (name, number, places)

    def _go_on(self):
        """Let the innermost frame stand at its next row."""
        self._stand_at(self._frames[-1][1] + 1)

    def _write(self, place, value):
        """Put a value into a register of the innermost frame, which then stands at its next row."""
        name, number, places = self._frames[-1]
        self._frames[-1] = (name, number + 1, places[:place] + (value,) + places[place + 1:])

    def _test(self, value, number):
        """Carry out a test that leads to this row for no."""
        if value[0] != "bit":
            raise Thrown(("err", "bit"))
        if value[1] == "yes":
            self._go_on()
        else:
            self._stand_at(number)

    def _result(self, row, places):
        """Return the value that a writing row, other than call and method, puts into its register."""
        word = row[0]
        if word == "const":
            return row[2]
        if word == "move":
            return places[row[2]]
        if word == "global":
            return self._global_value(row[2])
        if word == "get":
            return self._found(places[row[2]], row[3])
        if word == "new":
            return self._new_object(places[row[2]])
        if word == "same":
            return bit(places[row[2]] == places[row[3]])
        return self._applied(row[2], [places[place] for place in row[3]])

    def _global_value(self, name):
        """Return the value of a global."""
        if name not in self._globals:
            raise Thrown(("err", "global"))
        return self._globals[name]

    def _found(self, value, field):
        """Return what the look-up of a field from a value finds."""
        found = look_up_in(self._objects, object_number(value), field)
        if found is None:
            raise Thrown(("err", "field"))
        return found[1]

    def _new_object(self, value):
        """Make an object with this value as its parent and return it."""
        parent = None if value == NONE else object_number(value)
        if parent is not None and count_above(self._objects, parent) >= MOST_ABOVE:
            raise Thrown(("err", "deep"))
        self._objects.append((parent, ()))
        return ("obj", len(self._objects) - 1)

    def _applied(self, primitive, values):
        """Return the result of a primitive for values."""
        book = self._before.book()
        kinds = tuple([kind_of(value) for value in values])
        variant = variant_for(book.signature(), primitive, kinds)
        if variant is None:
            raise Thrown(("err", "kind"))
        return apply(book, variant, values)

    def _change(self, row, places):
        """Carry out a put, show, set or drop row, which write no register."""
        word = row[0]
        if word == "put":
            self._globals[row[1]] = places[row[2]]
        elif word == "show":
            self._shown.append(places[row[1]])
        elif word == "set":
            number = object_number(places[row[1]])
            self._objects[number] = with_field(self._objects[number], row[2], places[row[3]])
        else:
            number = object_number(places[row[1]])
            if not has_field(self._objects[number], row[2]):
                raise Thrown(("err", "field"))
            self._objects[number] = without_field(self._objects[number], row[2])

    def _call(self, row, places):
        """Carry out a call or method row that calls a function."""
        called = places[row[2]]
        arguments = tuple([places[place] for place in row[-1]])
        if row[0] == "method":
            arguments = (called,) + arguments
            called = self._found(called, row[3])
        if called[0] != "fun" or called[1] not in self._before.program().names():
            raise Thrown(("err", "function"))
        code = self._before.code(called[1])
        if len(arguments) != code.parameters():
            raise Thrown(("err", "count"))
        rest = (NONE,) * (code.registers() - len(arguments))
        self._frames.append((called[1], 0, arguments + rest))

    def _return(self, value):
        """Take the innermost frame away and give its value to the frame that waits, or end."""
        self._frames.pop()
        if not self._frames:
            self._end = ("returned", value)
            return
        name, number, _ = self._frames[-1]
        self._write(self._before.code(name).row(number)[1], value)

    def _handle(self, value):
        """Let the innermost handler have a thrown value, or end."""
        while self._frames:
            name, number, _ = self._frames[-1]
            stretch = stretch_over(self._before.code(name).stretches(), number)
            if stretch is not None:
                self._write(stretch[3], value)
                self._stand_at(stretch[2])
                return
            self._frames.pop()
        self._end = ("thrown", value)


def object_number(value):
    """Return the number of the object that a value is."""
    if value[0] != "obj":
        raise Thrown(("err", "object"))
    return value[1]
