"""Starts that follow a branch (S8.9)."""

from shapeguess.books import Book
from shapeguess.branches import OTHER, UNSET
from shapeguess.scenes import Fresh
from shapeguess.states import State
from shapeguess.values import NONE, bit


def start_of(branch):
    """Return the tuple (book, state, objects) of a start that follows a branch that is not impossible."""
    return StartMaker(branch).made()


class StartMaker:
    """The values of a start while they are chosen. All that the branch does not tell apart gets different values."""

    def __init__(self, branch):
        self._branch = branch
        self._ground = branch.ground()
        version = self._ground.version()
        parts = [self._ground.program().functions(), version.names(), version.watched(), version.points()]
        self._words = Fresh(parts + [version.rows()])
        # For each kind of tokens the least number that was not chosen yet.
        self._sizes = {kind: self._least_size(kind) for kind in self._ground.signature().kinds()}
        self._objects = [None] * branch.many_known("obj")
        # The values by what their terms come to, and the entries of tables by variants and numbers of tokens.
        self._values = {}
        self._entries = {}

    def made(self):
        """Return the tuple (book, state, objects)."""
        ground = self._ground
        for o in range(self._branch.many_known("obj")):
            self._objects[o] = self._known_object(o)
        terms = [("global", name) for name in ground.globals_of_rows()]
        told = {term[1]: self._value(term) for term in terms if self._branch.kind(term) != UNSET}
        frame = self._frame()
        for term in self._branch.answered_variants():
            self._enter(term)
        shown = [("obj", number) for number in range(len(self._objects))]
        book = self._made_book()
        state = State(ground.program(), book, [frame], self._objects, told, shown)
        return (book, state, list(range(len(ground.version().names()))))

    def _least_size(self, kind):
        """Return a size of a kind that has room for its first known values."""
        return max([1] + [value[2] + 1 for value in self._ground.first_values(kind)])

    def _value(self, term):
        """Return the value of a term, which is none if not even its kind is known."""
        gist = self._branch.gist(term)
        if gist not in self._values:
            self._values[gist] = self._chosen(term, gist)
        return self._values[gist]

    def _chosen(self, term, gist):
        """Return a value for a term: the one for which it stands, or one that differs from all others."""
        if gist[0] == "value":
            return gist[1]
        if gist[0] == "known":
            return ("obj", gist[1])
        kind = self._branch.kind(term)
        if gist[0] == "mark" and gist[2] < len(self._ground.first_values(kind)):
            return self._ground.first_values(kind)[gist[2]]
        if kind is None:
            return NONE
        if kind == "bit":
            return bit(True)
        if kind == "obj":
            self._objects.append((None, ((self._words.new_word(), NONE),)))
            return ("obj", len(self._objects) - 1)
        if kind == "err" or kind == "fun":
            return (kind, self._words.new_word())
        self._sizes[kind] = self._sizes[kind] + 1
        return ("tok", kind, self._sizes[kind] - 1)

    def _known_object(self, o):
        """Return the plain object for a known object."""
        shape = self._branch.shape(o)
        if shape is None or shape == OTHER:
            fields = self._branch.had_fields(o)
        else:
            fields = list(shape[1])
        pairs = [(field, self._value(("field", o, field))) for field in fields]
        if shape is None or shape == OTHER:
            pairs.append((self._words.new_word(), NONE))
        parent = self._branch.parent(o)
        return (None if parent == "none" else parent, tuple(pairs))

    def _frame(self):
        """Return the frame that stands at the point."""
        point = self._branch.point()
        version = self._ground.version()
        name = version.function()
        values = [NONE] * self._ground.codes()[name].registers()
        for at, place in point.pairs():
            if place[0] == "reg":
                values[at] = self._value(point.start_at(place[1]))
            else:
                values[at] = self._value(self._ground.mark_term(place if place[0] == "name" else place[1]))
        return (name, version.point(point.k())[0], tuple(values))

    def _enter(self, term):
        """Put the value of a variant term, and those of the variant terms in it, into the tables."""
        name, args = self._ground.variant_parts(term)
        for arg in args:
            if arg[0] == "variant":
                self._enter(arg)
        place = (name, tuple([self._value(arg)[2] for arg in args]))
        self._entries[place] = self._value(term)[-1]

    def _made_book(self):
        """Return the book with the entries that were put into the tables, and any others."""
        signature = self._ground.signature()
        tables = {}
        for primitive in signature.primitives():
            for name, kinds, result in signature.variants(primitive):
                usual = "yes" if result == "bit" else 0
                places = places_of(tuple([self._sizes[kind] for kind in kinds]))
                tables[name] = [self._entries.get((name, place), usual) for place in places]
        return Book(signature, self._sizes, tables)


def places_of(sizes):
    """Return the list of the tuples of one or two numbers below sizes, in ascending order."""
    if len(sizes) == 1:
        return [(number,) for number in range(sizes[0])]
    return [(number, other) for number in range(sizes[0]) for other in range(sizes[1])]
