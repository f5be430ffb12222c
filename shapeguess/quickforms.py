"""Whether what may be anything has the form of a quick row, a linked point or an end (S7.1 to S7.4)."""

from shapeguess.factparts import is_mark, is_told_shape, is_told_value, names_in, names_in_mark, names_in_shape
from shapeguess.factparts import registers_in
from shapeguess.facts import is_fact, is_watched
from shapeguess.plainrows import CALLING
from shapeguess.values import is_index, is_number, is_word

# For each first word of a quick row: what its members are behind the word.
QUICK_FORMS = {
    "const": ("place", "mark"),
    "move": ("place", "place"),
    "same": ("place", "place", "place"),
    "put": ("word", "place"),
    "show": ("place",),
    "point": ("point",),
    "load": ("place", "place", "shape", "word"),
    "store": ("place", "shape", "word", "place"),
    "grow": ("place", "shape", "word", "place"),
    "variant": ("place", "variant", "places"),
    "jump": ("number",),
    "test": ("place", "number"),
    "check": ("fact", "end"),
    "global": ("place", "word", "end"),
    "get": ("place", "place", "word", "end"),
    "set": ("place", "word", "place", "end"),
    "drop": ("place", "word", "end"),
    "new": ("place", "place", "end"),
    "prim": ("place", "primitive", "places", "end"),
    "stop": ("end",),
    "link": ("count", "point"),
    "return": ("number", "place"),
    "call": ("place", "place", "places", "end", "point"),
    "method": ("place", "place", "word", "places", "end", "point"),
}


class Forms:
    """The forms in a version of a program, of which the function, the names and the registers are right."""

    def __init__(self, lives, version):
        self._lives = lives
        self._signature = lives.signature()
        self._function = version.function()
        self._names = version.names()
        self._registers = version.registers()
        self._points = version.points()

    def is_right_watched(self, value):
        """Return whether anything is a watched fact with names of the version."""
        return is_watched(self._signature, value) and self._are_names(names_in(value))

    def is_right_fact(self, value):
        """Return whether anything is a register fact about quick registers with names of the version."""
        if not is_fact(self._signature, value) or not self._are_names(names_in(value)):
            return False
        return all([place < self._registers for place in registers_in(value)])

    def is_point(self, value):
        """Return whether anything is a linked point."""
        if not isinstance(value, tuple) or len(value) != 3:
            return False
        row, facts, pairs = value
        if not self._lives.has_row(self._function, row):
            return False
        if not isinstance(facts, tuple) or not all([self.is_right_fact(fact) for fact in facts]):
            return False
        if not self._are_places(pairs, self._lives.live(self._function, row)):
            return False
        named = quick_registers_in(pairs)
        if len(named) != len(set(named)):
            return False
        return all([place in named for fact in facts for place in registers_in(fact)])

    def is_row(self, value):
        """Return whether anything has the form of a quick row, whose end may be anything."""
        if not isinstance(value, tuple) or not value or not isinstance(value[0], str):
            return False
        form = QUICK_FORMS.get(value[0])
        if form is None or len(value) != 1 + len(form):
            return False
        if not all([self._has_role(role, member) for role, member in zip(form, value[1:])]):
            return False
        if value[0] == "load":
            return value[4] in value[3][1]
        if value[0] == "store" or value[0] == "grow":
            return (value[3] in value[2][1]) == (value[0] == "store")
        return value[0] != "variant" or len(value[3]) == len(self._signature.variant(value[2])[1])

    def is_end(self, value):
        """Return whether anything is an end."""
        if not isinstance(value, tuple) or len(value) != 2 or not is_number(value[0]):
            return False
        frames = value[1]
        if not isinstance(frames, tuple) or not frames or not all([self._stands(frame) for frame in frames]):
            return False
        if frames[0][0] != self._function:
            return False
        if not all([self._waits(frame) for frame in frames[:-1]]):
            return False
        name, row, pairs = frames[-1]
        return self._are_places(pairs, self._lives.live(name, row))

    def _are_names(self, names):
        """Return whether all of these words are names of the version."""
        return all([name in self._names for name in names])

    def _has_role(self, role, value):
        """Return whether anything can be a member with this role in a quick row."""
        if role == "place":
            return is_index(value, self._registers)
        if role == "places":
            return isinstance(value, tuple) and all([is_index(place, self._registers) for place in value])
        if role == "word":
            return is_word(value)
        if role == "number":
            return is_number(value)
        if role == "count":
            return is_number(value) and value >= 1
        if role == "point":
            return is_index(value, len(self._points))
        return self._has_rich_role(role, value)

    def _has_rich_role(self, role, value):
        """Return whether anything can be a member with this role, which is about more than a word or a number."""
        if role == "mark":
            return is_mark(self._signature, value) and self._are_names(names_in_mark(value))
        if role == "shape":
            return is_told_shape(value) and self._are_names(names_in_shape(value))
        if role == "fact":
            return self.is_right_fact(value)
        if role == "variant":
            return self._lives.has_variant(value)
        if role == "primitive":
            return value in self._signature.primitives()
        return role == "end"

    def _is_place(self, value):
        """Return whether anything is a place."""
        if not isinstance(value, tuple) or len(value) != 2:
            return False
        if value[0] == "reg":
            return is_index(value[1], self._registers)
        if value[0] == "value":
            return is_told_value(self._signature, value[1])
        return value[0] == "name" and value[1] in self._names

    def _are_places(self, value, wanted):
        """Return whether anything is a tuple of pairs of just the wanted registers, in order, and places."""
        if not isinstance(value, tuple) or len(value) != len(wanted):
            return False
        for pair, place in zip(value, wanted):
            if not isinstance(pair, tuple) or len(pair) != 2 or not is_number(pair[0]) or pair[0] != place:
                return False
            if not self._is_place(pair[1]):
                return False
        return True

    def _stands(self, frame):
        """Return whether anything is a tuple of three that tells a row of a function of the program."""
        return isinstance(frame, tuple) and len(frame) == 3 and self._lives.has_row(frame[0], frame[1])

    def _waits(self, frame):
        """Return whether a frame that stands at a row is a told frame that waits there."""
        name, row, pairs = frame
        if self._lives.row(name, row)[0] not in CALLING:
            return False
        return self._are_places(pairs, self._lives.waiting(name, row))


def quick_registers_in(pairs):
    """Return the list of the quick registers that are places in pairs of a register and a place."""
    return [place[1] for _, place in pairs if place[0] == "reg"]
