"""Shapes of objects and the tables that give numbers to them (S4.1, S4.2)."""

from shapeguess.errors import BadShape, NotThere
from shapeguess.values import are_different_words, is_index, is_number


class Shapes:
    """A table of shapes. A shape has the number of shapes that were asked for before it."""

    def __init__(self):
        self._pairs = []
        self._numbers = {}

    def __len__(self):
        return len(self._pairs)

    def number_of(self, root, names):
        """Return the number of a shape, whose root and names may be anything."""
        if root is not None and not is_number(root):
            raise BadShape()
        if not are_different_words(names):
            raise BadShape()
        pair = (root, names)
        if pair not in self._numbers:
            self._numbers[pair] = len(self._pairs)
            self._pairs.append(pair)
        return self._numbers[pair]

    def shape(self, number):
        """Return the pair (root, names) with this number, which may be anything."""
        if not is_index(number, len(self._pairs)):
            raise NotThere(number)
        return self._pairs[number]

    def slot(self, number, f):
        """Return the slot of a name, which may be anything, in a shape, or None."""
        _, names = self.shape(number)
        return names.index(f) if f in names else None

    def with_name(self, number, f):
        """Return the number of the shape to which putting a name leads."""
        root, names = self.shape(number)
        # What is no word, or is there already, gives no tuple of different words.
        return self.number_of(root, names + (f,))

    def without_name(self, number, f):
        """Return the number of the shape to which dropping a name leads."""
        root, names = self.shape(number)
        if f not in names:
            raise BadShape()
        return self.number_of(root, tuple([name for name in names if name != f]))

    def twin(self):
        """Return another table with the same shapes."""
        other = Shapes()
        for root, names in self._pairs:
            other.number_of(root, names)
        return other

    def __eq__(self, other):
        return isinstance(other, Shapes) and self._pairs == other._pairs
