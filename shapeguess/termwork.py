"""What plain and quick rows do in walks, with terms in the place of values (S8.6)."""

from shapeguess.grounds import NONE_TERM
from shapeguess.quickwork import Stuck
from shapeguess.signatures import variant_for
from shapeguess.termheld import TermHeld, error_term
from shapeguess.values import bit
from shapeguess.working import Thrown


class TermWork:
    """The rows of a walk at a branch. A method raises Needed where the branch does not tell what it needs."""

    def __init__(self, branch):
        self._branch = branch
        self._ground = branch.ground()
        self._held = TermHeld(branch)

    def held(self):
        """Return what holds the objects, globals and shown values."""
        return self._held

    def none(self):
        """Return what stands in a register that was not written yet."""
        return NONE_TERM

    def meaning(self, mark):
        """Return the term of a mark."""
        return self._ground.mark_term(mark)

    def truth(self, term):
        """Return whether a bit is yes."""
        if self._held.kind(term) != "bit":
            raise Thrown(error_term("bit"))
        return self._held.settled(term) == ("value", bit(True))

    def are_same(self, one, other):
        """Return whether two terms have the same value."""
        if self._branch.gist(one) == self._branch.gist(other):
            return True
        # A fresh object differs from everything else.
        if "fresh" in (one[0], other[0]):
            return False
        kind = self._held.kind(one)
        if kind == self._held.kind(other):
            self._held.settled(one)
            self._held.settled(other)
        return False

    def result(self, row, places):
        """Return what a writing row, other than call and method, puts into its register."""
        word = row[0]
        if word == "const":
            return ("value", row[2])
        if word == "move":
            return places[row[2]]
        if word == "global":
            return self._held.global_value(row[2])
        if word == "get":
            return self._held.found(places[row[2]], row[3])
        if word == "new":
            return self._held.new_object(places[row[2]])
        if word == "same":
            return ("value", bit(self.are_same(places[row[2]], places[row[3]])))
        args = tuple([places[place] for place in row[3]])
        variant = variant_for(self._ground.signature(), row[2], self._kinds_of(args))
        if variant is None:
            raise Thrown(error_term("kind"))
        return self._ground.variant_term(variant, args)

    def change(self, row, places):
        """Carry out a put, show, set or drop row, which write no register."""
        word = row[0]
        if word == "put":
            self._held.put(row[1], places[row[2]])
        elif word == "show":
            self._held.show(places[row[1]])
        elif word == "set":
            self._held.set_own(places[row[1]], row[2], places[row[3]])
        else:
            self._held.drop_own(places[row[1]], row[2])

    def call(self, row, places):
        """Return the tuple (name, arguments) of the function that a call or method row calls and of its arguments."""
        called = places[row[2]]
        arguments = tuple([places[place] for place in row[4 if row[0] == "method" else 3]])
        if row[0] == "method":
            arguments = (called,) + arguments
            called = self._held.found(called, row[3])
        if self._held.kind(called) != "fun":
            raise Thrown(error_term("function"))
        # The functions of the program are the first known ones.
        names = self._ground.program().names()
        number = self._held.settled(called)[2]
        if number >= len(names):
            raise Thrown(error_term("function"))
        if len(arguments) != len(self._ground.program().function(names[number])[1]):
            raise Thrown(error_term("count"))
        return (names[number], arguments)

    def holds(self, fact, places):
        """Return whether a register fact holds."""
        word = fact[0]
        term = places[fact[1]]
        if word == "kind":
            return self._held.kind(term) == fact[2]
        if word == "is":
            return self.are_same(term, self.meaning(fact[2]))
        if word == "shape":
            thing = self._held.object_at(term)
            return thing is not None and self._held.is_shaped(thing, fact[2])
        return self.are_same(term, places[fact[2]]) == (word == "same")

    def read_own(self, term, shape, field):
        """Return the content of a field of a shape in an object that must have the shape."""
        return self._held.own(self._object_shaped(term, shape), field)

    def write_own(self, term, shape, field, content):
        """Give a field a content in an object that must have the shape."""
        self._object_shaped(term, shape)
        self._held.set_own(term, field, content)

    def applied(self, variant, terms):
        """Return the result of a variant for terms, which must have its kinds."""
        if self._kinds_of(terms) != self._ground.signature().variant(variant)[1]:
            raise Stuck()
        return self._ground.variant_term(variant, tuple(terms))

    def _kinds_of(self, terms):
        """Return the tuple of the kinds of terms."""
        return tuple([self._held.kind(term) for term in terms])

    def _object_shaped(self, term, shape):
        """Return the object of a term that must have a shape."""
        thing = self._held.object_at(term)
        if thing is None or not self._held.is_shaped(thing, shape):
            raise Stuck()
        return thing
