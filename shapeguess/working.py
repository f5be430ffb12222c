"""What rows do with objects, globals and shown values, with primitives and with functions (S3.3)."""

from shapeguess.books import apply
from shapeguess.plainobjects import MOST_ABOVE, count_above, has_field, look_up_in, with_field, without_field
from shapeguess.signatures import variant_for
from shapeguess.values import NONE, bit, kind_of


class Thrown(Exception):
    """A row throws a value of the language."""

    def __init__(self, thrown):
        Exception.__init__(self, "a row throws a value")
        self.thrown = thrown


class Held:
    """The objects, globals and shown values of a run, which change while it goes on. What was passed stays as it is.

    A method that throws changes nothing.
    """

    def __init__(self, objects, global_values, shown):
        self._objects = list(objects)
        self._globals = dict(global_values)
        self._shown = list(shown)

    def parts(self):
        """Return the tuple of the list of objects, the dict of globals and the list of shown values."""
        return (list(self._objects), dict(self._globals), list(self._shown))

    def put(self, name, value):
        """Give a global this value."""
        self._globals[name] = value

    def show(self, value):
        """Show a value."""
        self._shown.append(value)

    def global_value(self, name):
        """Return the value of a global."""
        if name not in self._globals:
            raise Thrown(("err", "global"))
        return self._globals[name]

    def found(self, value, field):
        """Return what the look-up of a field from a value finds."""
        found = look_up_in(self._objects, object_number(value), field)
        if found is None:
            raise Thrown(("err", "field"))
        return found[1]

    def new_object(self, value):
        """Make an object with this value as its parent and return it."""
        parent = None if value == NONE else object_number(value)
        if parent is not None and count_above(self._objects, parent) >= MOST_ABOVE:
            raise Thrown(("err", "deep"))
        self._objects.append((parent, ()))
        return ("obj", len(self._objects) - 1)

    def set_own(self, value, field, content):
        """Give the object that a value is this content of a field."""
        number = object_number(value)
        self._objects[number] = with_field(self._objects[number], field, content)

    def drop_own(self, value, field):
        """Take a field from the object that a value is."""
        number = object_number(value)
        if not has_field(self._objects[number], field):
            raise Thrown(("err", "field"))
        self._objects[number] = without_field(self._objects[number], field)


def object_number(value):
    """Return the number of the object that a value is."""
    if value[0] != "obj":
        raise Thrown(("err", "object"))
    return value[1]


def applied(book, primitive, values):
    """Return the result of a primitive for values."""
    kinds = tuple([kind_of(value) for value in values])
    variant = variant_for(book.signature(), primitive, kinds)
    if variant is None:
        raise Thrown(("err", "kind"))
    return apply(book, variant, values)


class Work:
    """What rows do in a run with registers, and with the objects, globals and shown values that are held."""

    def __init__(self, program, book, held):
        self._program = program
        self._book = book
        self._held = held

    def held(self):
        """Return what holds the objects, globals and shown values."""
        return self._held

    def none(self):
        """Return what stands in a register that was not written yet."""
        return NONE

    def truth(self, value):
        """Return whether a bit is yes."""
        if value[0] != "bit":
            raise Thrown(("err", "bit"))
        return value[1] == "yes"

    def result(self, row, places):
        """Return what a writing row, other than call and method, puts into its register."""
        word = row[0]
        if word == "const":
            return row[2]
        if word == "move":
            return places[row[2]]
        if word == "global":
            return self._held.global_value(row[2])
        if word == "get":
            return self._held.found(places[row[2]], row[3])
        if word == "new":
            return self._held.new_object(places[row[2]])
        if word == "same":
            return bit(places[row[2]] == places[row[3]])
        return applied(self._book, row[2], [places[place] for place in row[3]])

    def change(self, row, places):
        """Carry out a put, show, set or drop row, which write no register."""
        word = row[0]
        if word == "put":
            self._held.put(row[1], places[row[2]])
        elif word == "show":
            self._held.show(places[row[1]])
        elif word == "set":
            self._held.set_own(places[row[1]], row[2], places[row[3]])
        else:
            self._held.drop_own(places[row[1]], row[2])

    def call(self, row, places):
        """Return the tuple (name, arguments) of the function that a call or method row calls and of its arguments."""
        called = places[row[2]]
        if row[0] == "method":
            arguments = (called,) + tuple([places[place] for place in row[4]])
            called = self._held.found(called, row[3])
        else:
            arguments = tuple([places[place] for place in row[3]])
        if called[0] != "fun" or called[1] not in self._program.names():
            raise Thrown(("err", "function"))
        if len(arguments) != len(self._program.function(called[1])[1]):
            raise Thrown(("err", "count"))
        return (called[1], arguments)
