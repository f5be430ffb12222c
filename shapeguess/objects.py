"""Heaps: objects that are kept as numbers of shapes and lists of contents (S4.3)."""

from shapeguess.errors import BadShape, NotThere
from shapeguess.plainobjects import MOST_ABOVE
from shapeguess.values import is_index


class Heap:
    """Objects over a table of shapes, which the heap shares with whoever made it."""

    def __init__(self, shapes, objects):
        self._table = shapes
        self._shape_numbers = []
        self._contents = []
        for parent, fields in objects:
            self._shape_numbers.append(shapes.number_of(parent, tuple([name for name, _ in fields])))
            self._contents.append([value for _, value in fields])

    def __len__(self):
        return len(self._contents)

    def table(self):
        """Return the table that the heap keeps."""
        return self._table

    def objects(self):
        """Return the list of the plain objects that the heap represents."""
        found = []
        for number, values in zip(self._shape_numbers, self._contents):
            root, names = self._table.shape(number)
            found.append((root, tuple(list(zip(names, values)))))
        return found

    def shape_of(self, k):
        """Return the number of the shape of an object."""
        self._check_object(k)
        return self._shape_numbers[k]

    def contents(self, k):
        """Return the list of the contents of an object."""
        self._check_object(k)
        return list(self._contents[k])

    def own(self, k, f):
        """Return the slot of a field, which may be anything, in an object, or None."""
        return self._table.slot(self.shape_of(k), f)

    def parent_of(self, k):
        """Return the number of the parent of an object, or None."""
        return self._table.shape(self.shape_of(k))[0]

    def make(self, root):
        """Make an object without fields whose parent is root, which may be anything, and return its number."""
        if root is not None and not self._may_be_parent(root):
            raise BadShape()
        self._shape_numbers.append(self._table.number_of(root, ()))
        self._contents.append([])
        return len(self._contents) - 1

    def put_at(self, k, slot, value):
        """Put a value at a slot, which may be anything, of an object."""
        self._check_object(k)
        if not is_index(slot, len(self._contents[k])):
            raise NotThere(slot)
        self._contents[k][slot] = value

    def set_field(self, k, f, value):
        """Give an object this value of a field, which is the last one if the object did not have it."""
        slot = self.own(k, f)
        if slot is None:
            self._shape_numbers[k] = self._table.with_name(self._shape_numbers[k], f)
            self._contents[k].append(value)
        else:
            self._contents[k][slot] = value

    def drop_field(self, k, f):
        """Take a field, which may be anything, from an object."""
        slot = self.own(k, f)
        # The table raises BadShape where there is no slot.
        self._shape_numbers[k] = self._table.without_name(self._shape_numbers[k], f)
        self._contents[k].pop(slot)

    def twin(self):
        """Return another heap over a twin of the table."""
        return Heap(self._table.twin(), self.objects())

    def __eq__(self, other):
        return isinstance(other, Heap) and self.objects() == other.objects()

    def _check_object(self, k):
        """Raise NotThere unless k, which may be anything, is the number of an object."""
        if not is_index(k, len(self._contents)):
            raise NotThere(k)

    def _may_be_parent(self, k):
        """Return whether anything is the number of an object that has room for one more below it."""
        if not is_index(k, len(self._contents)):
            return False
        above = 0
        parent = self.parent_of(k)
        while parent is not None:
            above = above + 1
            parent = self.parent_of(parent)
        return above < MOST_ABOVE
