"""Cells, which remember look-ups (S5.4, S5.5)."""

from shapeguess.lookups import entry_for, look_up, meets

MANY = "many"


class Cell:
    """The entries of one place of a program that reads or writes a field, or "many"."""

    def __init__(self, most, is_writing):
        self._most = most
        self._is_writing = is_writing
        # A tuple of entries, or MANY.
        self._entries = ()
        self._rises = 0

    def entries(self):
        """Return the list of the entries, or "many"."""
        return MANY if self._entries == MANY else list(self._entries)

    def rises(self):
        """Return the number of the rises since the cell was made."""
        return self._rises

    def wipe(self):
        """Clear the cell."""
        self._entries = ()

    def look(self, heap, k, f):
        """Return the entry that a look from an object finds, or None."""
        # The object must exist, also where there is no entry that it could meet.
        heap.shape_of(k)
        if self._entries == MANY:
            return None
        for entry in self._entries:
            if meets(heap, k, entry):
                return entry
        return None

    def learn(self, heap, k, f):
        """Learn from an object; return whether this is a rise."""
        if self.look(heap, k, f) is not None or self._entries == MANY:
            return False
        if heap.shape_of(k) in [shape for shape, _ in self._entries]:
            self._rise(MANY)
            return True
        entry = entry_for(heap, k, f, self._is_writing)
        if entry is None:
            return False
        is_full = len(self._entries) >= self._most
        self._rise(MANY if is_full else self._entries + (entry,))
        return True

    def read_field(self, heap, k, f):
        """Read a field of an object; return its value, or the word "field" if the look-up finds nothing."""
        entry = self.look(heap, k, f)
        if entry is None:
            self.learn(heap, k, f)
            found = look_up(heap, k, f)
            return found if found == "field" else found[1]
        how = entry[1]
        holder = how[1][-1][0] if how[0] == "up" else k
        return heap.contents(holder)[how[-1]]

    def write_field(self, heap, k, f, value):
        """Write a field of an object."""
        entry = self.look(heap, k, f)
        if entry is not None and entry[1][0] == "own":
            heap.put_at(k, entry[1][1], value)
            return
        if entry is None:
            self.learn(heap, k, f)
        heap.set_field(k, f, value)

    def twin(self):
        """Return another cell with the same entries and rises."""
        other = Cell(self._most, self._is_writing)
        other._entries = self._entries
        other._rises = self._rises
        return other

    def __eq__(self, other):
        if not isinstance(other, Cell) or self._most != other._most or self._is_writing != other._is_writing:
            return False
        return self._entries == other._entries and self._rises == other._rises

    def _rise(self, entries):
        """Make a change by learning."""
        self._entries = entries
        self._rises = self._rises + 1
