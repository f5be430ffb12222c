"""What lists of facts tell together: classes of registers, names and globals (S6.4)."""

from shapeguess.factparts import registers_in
from shapeguess.values import NONE, bit, kind_of

# An object has at most two objects above it, so a third root on the way up is one too many.
MOST_ROOTS = 2


class Known:
    """All that a list of facts tells. A class has the number of one of its registers."""

    def __init__(self, facts):
        self._facts = tuple(facts)
        self._class_of = {place: place for fact in facts for place in registers_in(fact)}
        self._kinds = {place: [] for place in self._class_of}
        self._marks = {place: [] for place in self._class_of}
        self._shapes = {place: [] for place in self._class_of}
        for fact in facts:
            self._take(fact)
        while self._join_marks() or self._join_bits():
            pass

    def facts(self):
        """Return the list of the facts."""
        return list(self._facts)

    def classes(self):
        """Return the list of the classes."""
        return [place for place in self._class_of if self._class_of[place] == place]

    def class_of(self, place):
        """Return the class of a register, or None if no fact names it."""
        return self._class_of.get(place)

    def kind(self, place):
        """Return the kind of a register, or None if it is not told."""
        return first_of(self._kinds.get(self.class_of(place), []))

    def mark(self, place):
        """Return the mark of a register, or None if it has none."""
        return first_of(self._marks.get(self.class_of(place), []))

    def name_at(self, place):
        """Return the name of the object in a register, or None if it has none."""
        mark = self.mark(place)
        return mark[1] if mark is not None and mark[0] == "name" else None

    def shape_at(self, place):
        """Return the shape of the object in a register, or None if it is not told."""
        name = self.name_at(place)
        if name is not None:
            return self.shape_of(name)
        return first_of(self._shapes.get(self.class_of(place), []))

    def shape_of(self, name):
        """Return the shape of the object with a name, or None if it is not told."""
        return first_of(self._shapes_of(name))

    def slots_of(self, name):
        """Return the dict from the fields of a name that a slot tells to their marks."""
        return {fact[2]: fact[3] for fact in self._facts if fact[0] == "slot" and fact[1] == name}

    def global_marks(self):
        """Return the dict from the globals that are told to their marks."""
        return {fact[1]: fact[2] for fact in self._facts if fact[0] == "global"}

    def is_contradictory(self):
        """Return whether not all of the facts can hold in one scene."""
        for place in self.classes():
            if len(self._kinds[place]) > 1 or len(self._marks[place]) > 1 or len(self._shapes[place]) > 1:
                return True
            if self._is_too_deep(self.shape_at(place)):
                return True
        if any([self.class_of(one) == self.class_of(other) for one, other in self._pairs_of("unlike")]):
            return True
        if has_two_marks(self._facts):
            return True
        return any([self._is_bad_name(name) for name in names_with_shape(self._facts)])

    def _take(self, fact):
        """Take in what a register fact tells directly."""
        if fact[0] == "kind":
            self._tell(self._kinds, fact[1], fact[2])
            if fact[2] == "none":
                self._tell(self._marks, fact[1], NONE)
        elif fact[0] == "is":
            self._tell(self._marks, fact[1], fact[2])
            self._tell(self._kinds, fact[1], kind_of_mark(fact[2]))
        elif fact[0] == "shape":
            self._tell(self._shapes, fact[1], fact[2])
            self._tell(self._kinds, fact[1], "obj")
        elif fact[0] == "same":
            self._merge(fact[1], fact[2])

    def _tell(self, table, place, told):
        """Add what is told of a register to what a table has of its class; return whether it is new there."""
        known = table[self._class_of[place]]
        if told in known:
            return False
        known.append(told)
        return True

    def _merge(self, place, other):
        """Make one class of the classes of two registers; return whether they were two."""
        kept = self._class_of[place]
        gone = self._class_of[other]
        if kept == gone:
            return False
        for member in list(self._class_of):
            if self._class_of[member] == gone:
                self._class_of[member] = kept
        for table in (self._kinds, self._marks, self._shapes):
            moved = table.pop(gone)
            for told in moved:
                self._tell(table, kept, told)
        return True

    def _join_marks(self):
        """Make one class of two classes that have the same mark; return whether there were two."""
        # For each mark that was met: the class that has it.
        owners = {}
        for place in self.classes():
            for mark in self._marks[place]:
                if mark in owners:
                    return self._merge(owners[mark], place)
                owners[mark] = place
        return False

    def _join_bits(self):
        """Use the next "unlike" between classes of bits that tells something new; return whether there is one."""
        neighbours = {}
        for one, other in self._pairs_of("unlike"):
            if "bit" in self._kinds[self.class_of(one)] and "bit" in self._kinds[self.class_of(other)]:
                for place, beside in ((one, other), (other, one)):
                    if self._spread_bit(place, beside):
                        return True
                    # Two neighbours of one bit are two steps away from each other.
                    first = neighbours.setdefault(self.class_of(place), beside)
                    if self._merge(first, beside):
                        return True
        return False

    def _spread_bit(self, place, beside):
        """Give a register the bit that a register beside it has not; return whether this is new."""
        mark = self.mark(place)
        if mark is None or mark[0] != "bit":
            return False
        return self._tell(self._marks, beside, bit(mark[1] == "no"))

    def _pairs_of(self, word):
        """Return the list of the pairs of registers that facts of this word name."""
        return [(fact[1], fact[2]) for fact in self._facts if fact[0] == word]

    def _shapes_of(self, name):
        """Return the list of the shapes that are told of a name, each once."""
        found = []
        for fact in self._facts:
            if fact[0] == "holds" and fact[1] == name and fact[2] not in found:
                found.append(fact[2])
        for place in self.classes():
            if ("name", name) in self._marks[place]:
                found.extend([shape for shape in self._shapes[place] if shape not in found])
        return found

    def _is_bad_name(self, name):
        """Return whether what is told of the shape of a name contradicts itself."""
        shapes = self._shapes_of(name)
        if len(shapes) > 1:
            return True
        shape = first_of(shapes)
        if shape is None:
            return False
        lacking = [field for field in self.slots_of(name) if field not in shape[1]]
        return len(lacking) > 0 or self._is_too_deep(shape)

    def _is_too_deep(self, shape):
        """Return whether the way up from a shape comes to too many roots, as it does where it meets a name twice."""
        roots = 0
        while shape is not None and shape[0] is not None and roots <= MOST_ROOTS:
            roots = roots + 1
            shape = self.shape_of(shape[0])
        return roots > MOST_ROOTS


def first_of(found):
    """Return the first member of a list, or None."""
    return found[0] if found else None


def kind_of_mark(mark):
    """Return the kind of what a mark means."""
    return "obj" if mark[0] == "name" else kind_of(mark)


def names_with_shape(facts):
    """Return the list of the names of which facts may tell a shape."""
    found = [fact[1] for fact in facts if fact[0] == "holds"]
    return found + [fact[2][1] for fact in facts if fact[0] == "is" and fact[2][0] == "name"]


def has_two_marks(facts):
    """Return whether a global, or a field of a name, is told two marks."""
    told = {}
    for fact in facts:
        if fact[0] in ("global", "slot") and told.setdefault(fact[:-1], fact[-1]) != fact[-1]:
            return True
    return False
