"""Scenes in which facts hold, and as little else as possible (S6.2, S6.4)."""

from shapeguess.facts import meaning_of
from shapeguess.knowing import Known
from shapeguess.values import bit


class Fresh:
    """Words and numbers that occur nowhere in some tuples."""

    def __init__(self, parts):
        self._used = atoms_in(parts)
        self._number = 1 + max([0] + [atom for atom in self._used if isinstance(atom, int)])
        self._words = 0

    def new_word(self):
        """Return a word that was not used before."""
        self._words = self._words + 1
        while f"z{self._words}" in self._used:
            self._words = self._words + 1
        return f"z{self._words}"

    def new_number(self):
        """Return a number that was not used before."""
        self._number = self._number + 1
        return self._number

    def new_value(self, kind):
        """Return a value of a kind, which is none of an object, a bit and none, that was not used before."""
        if kind is None or kind == "err":
            return ("err", self.new_word())
        if kind == "fun":
            return ("fun", self.new_word())
        return ("tok", kind, self.new_number())


def atoms_in(parts):
    """Return the list of what is neither a tuple nor a list inside tuples and lists."""
    atoms = []
    todo = list(parts)
    while todo:
        part = todo.pop()
        if isinstance(part, (list, tuple)):
            todo.extend(part)
        else:
            atoms.append(part)
    return atoms


def with_bits(facts):
    """Return the list of facts with as many added as it takes that each bit is known; what holds stays possible."""
    facts = list(facts)
    while True:
        known = Known(facts)
        loose = [place for place in known.classes() if known.kind(place) == "bit" and known.mark(place) is None]
        if not loose:
            return facts
        facts.append(("is", loose[0], bit(True)))


def built_scene(facts, fact, names, many):
    """Return a scene with these names and this many registers in which facts, which are not contradictory, hold.

    Each value that they do not tell differs from all that they and the one other fact, or None, tell: it is an error
    if its kind is not told. An object whose shape they do not tell has a field that is told nowhere.
    """
    known = Known(with_bits(facts))
    fresh = Fresh([facts, fact])
    numbers = {name: number for number, name in enumerate(names)}
    nameless = [place for place in known.classes() if known.kind(place) == "obj" and known.name_at(place) is None]
    objects = [plain_object(known, fresh, numbers, known.shape_of(name), known.slots_of(name)) for name in names]
    objects.extend([plain_object(known, fresh, numbers, known.shape_at(place), {}) for place in nameless])
    values = {place: ("obj", len(names) + at) for at, place in enumerate(nameless)}
    for place in known.classes():
        mark = known.mark(place)
        if mark is not None:
            values[place] = meaning_of(numbers, mark)
        elif place not in values:
            values[place] = fresh.new_value(known.kind(place))
    told = known.global_marks()
    global_values = {name: meaning_of(numbers, told[name]) for name in told}
    places = [place_value(known, fresh, values, place) for place in range(many)]
    return (objects, global_values, numbers, places)


def place_value(known, fresh, values, place):
    """Return the value of a register, which no fact may name."""
    its_class = known.class_of(place)
    return fresh.new_value(None) if its_class is None else values[its_class]


def plain_object(known, fresh, numbers, shape, slots):
    """Return an object of a shape, or None if it may have any, with the contents that slots tell."""
    if shape is None:
        # A field that nobody tells of makes it an object of no shape that is told.
        root, fields = None, list(slots) + [fresh.new_word()]
    else:
        root, fields = shape
    pairs = []
    for field in fields:
        value = meaning_of(numbers, slots[field]) if field in slots else fresh.new_value(None)
        pairs.append((field, value))
    return (None if root is None else numbers[root], tuple(pairs))
