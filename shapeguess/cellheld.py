"""The objects, globals and shown values of an engine, and the cells through which they are read and written (S10.1)."""

from shapeguess.cells import MANY, Cell
from shapeguess.errors import BadShape
from shapeguess.objects import Heap
from shapeguess.values import NONE
from shapeguess.working import Thrown, object_number

WORDS_WITH_CELL = ("get", "set", "method")


def first_cells(codes, most):
    """Return the dict from functions and rows to new cells of at most so many entries."""
    cells = {}
    for name in codes:
        for number, row in enumerate(codes[name].rows()):
            if row[0] in WORDS_WITH_CELL:
                cells[(name, number)] = Cell(most, row[0] == "set")
    return cells


class CellHeld:
    """A heap, cells, globals and shown values, which change. A method that throws changes nothing but cells."""

    def __init__(self, heap, cells, global_values, shown):
        self._heap = heap
        self._cells = {place: cells[place] for place in cells}
        self._globals = dict(global_values)
        self._shown = list(shown)
        # The function and the row that are carried out.
        self._place = None

    def parts(self):
        """Return the tuple of the list of objects, the dict of globals and the list of shown values."""
        return (self._heap.objects(), dict(self._globals), list(self._shown))

    def table(self):
        """Return a twin of the table of shapes."""
        return self._heap.table().twin()

    def cells(self):
        """Return the dict from functions and rows to the cells."""
        return {place: self._cells[place] for place in self._cells}

    def told_cells(self):
        """Return the list of the cells as they are told without numbers of shapes: places, entries and rises."""
        shapes = self._heap.table()
        return [(place, told_entries(shapes, cell.entries()), cell.rises()) for place, cell in self._cells.items()]

    def twin(self):
        """Return an equal one; later changes of one change nothing in the other."""
        cells = {place: self._cells[place].twin() for place in self._cells}
        return CellHeld(self._heap.twin(), cells, self._globals, self._shown)

    def become(self, parts):
        """Hold other objects, globals and shown values, over the same table and with the same cells."""
        objects, global_values, shown = parts
        self._heap = Heap(self._heap.table(), objects)
        self._globals = dict(global_values)
        self._shown = list(shown)

    def wipe(self, place):
        """Clear the cell of a function and a row."""
        self._cells[place].wipe()

    def stand_at(self, place):
        """Let a function and a row tell the cell that is used from now on."""
        self._place = place

    def put(self, name, value):
        """Give a global this value."""
        self._globals[name] = value

    def show(self, value):
        """Show a value."""
        self._shown.append(value)

    def global_value(self, name):
        """Return the value of a global."""
        if name not in self._globals:
            raise Thrown(("err", "global"))
        return self._globals[name]

    def found(self, value, field):
        """Return what the look-up of a field from a value finds, through the cell."""
        found = self._cells[self._place].read_field(self._heap, object_number(value), field)
        if found == "field":
            raise Thrown(("err", "field"))
        return found

    def new_object(self, value):
        """Make an object with this value as its parent and return it."""
        parent = None if value == NONE else object_number(value)
        try:
            return ("obj", self._heap.make(parent))
        except BadShape:
            raise Thrown(("err", "deep")) from None

    def set_own(self, value, field, content):
        """Give the object that a value is this content of a field, through the cell."""
        self._cells[self._place].write_field(self._heap, object_number(value), field, content)

    def drop_own(self, value, field):
        """Take a field from the object that a value is."""
        number = object_number(value)
        if self._heap.own(number, field) is None:
            raise Thrown(("err", "field"))
        self._heap.drop_field(number, field)


def told_entries(shapes, entries):
    """Return the entries of a cell with shapes in the place of their numbers, or what is told in their place."""
    if entries == MANY:
        return MANY
    return [(shapes.shape(number), told_how(shapes, how)) for number, how in entries]


def told_how(shapes, how):
    """Return the second member of an entry with shapes in the place of their numbers."""
    if how[0] == "up":
        return (how[0], tuple([(number, shapes.shape(inner)) for number, inner in how[1]]), how[2])
    if how[0] == "grow":
        return (how[0], shapes.shape(how[1]), how[2])
    return how
