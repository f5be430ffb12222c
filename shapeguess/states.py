"""The states of the plain machine (S3.1, S3.2)."""

from shapeguess.compiling import compiled
from shapeguess.errors import BadState, NoFunction
from shapeguess.plainobjects import look_up_in
from shapeguess.stateparts import are_right_frames, are_right_globals, are_right_objects, are_right_values, check_book
from shapeguess.values import NONE, is_index


class State:
    """A program, a book, and the frames, objects, globals and shown values of a moment."""

    def __init__(self, program, book, frames, objects, global_values, shown):
        check_book(program, book)
        if not are_right_objects(book, objects):
            raise BadState("objects")
        many = len(objects)
        if not are_right_globals(book, many, global_values):
            raise BadState("globals")
        if not are_right_values(book, many, shown):
            raise BadState("shown")
        codes = compiled(program)
        if not are_right_frames(book, codes, many, frames):
            raise BadState("frames")
        self._program = program
        self._book = book
        self._codes = codes
        self._frames = tuple(frames)
        self._objects = tuple(objects)
        self._globals = dict(global_values)
        self._shown = tuple(shown)
        self._end = None

    def program(self):
        """Return the program."""
        return self._program

    def book(self):
        """Return the book."""
        return self._book

    def code(self, name):
        """Return the code of a function of the program."""
        return self._codes[name]

    def codes(self):
        """Return the dict from the names of the functions of the program to their codes."""
        return dict(self._codes)

    def frames(self):
        """Return the list of the frames, from the outermost to the innermost one."""
        return list(self._frames)

    def objects(self):
        """Return the list of the objects."""
        return list(self._objects)

    def global_values(self):
        """Return the dict from the names of the globals to their values."""
        return dict(self._globals)

    def shown(self):
        """Return the list of the shown values."""
        return list(self._shown)

    def end(self):
        """Return the end, or None."""
        return self._end

    def __eq__(self, other):
        if not isinstance(other, State) or self._program != other._program or self._book != other._book:
            return False
        if self._frames != other._frames or self._objects != other._objects:
            return False
        return self._globals == other._globals and self._shown == other._shown and self._end == other._end


class LaterState(State):
    """A state that steps made of another one.

    It may have an end, and its parts are not examined: steps make right states of right ones.
    """

    def __init__(self, state, frames, objects, global_values, shown, end):
        self._program = state.program()
        self._book = state.book()
        self._codes = state.codes()
        self._frames = tuple(frames)
        self._objects = tuple(objects)
        self._globals = dict(global_values)
        self._shown = tuple(shown)
        self._end = end


def find(state, number, field):
    """Return the tuple (holder, value) of the look-up of a field, or None if it finds nothing."""
    objects = state.objects()
    if not is_index(number, len(objects)):
        raise BadState("objects")
    return look_up_in(objects, number, field)


def start(program, book, function, arguments):
    """Return the state in which a function stands at its row 0 and nothing has happened yet."""
    if function not in program.names():
        raise NoFunction(function)
    check_book(program, book)
    code = compiled(program)[function]
    if not are_right_values(book, 0, arguments) or len(arguments) != code.parameters():
        raise BadState("frames")
    places = tuple(arguments) + (NONE,) * (code.registers() - len(arguments))
    return State(program, book, [(function, 0, places)], [], {}, [])
