"""The objects, globals and shown values of a walk, in terms (S8.6)."""

from shapeguess.branches import OTHER, UNSET
from shapeguess.plainobjects import MOST_ABOVE, has_field, with_field, without_field
from shapeguess.working import Thrown


class Needed(Exception):
    """A walk needs the answer to a question."""

    def __init__(self, question):
        Exception.__init__(self, "a walk needs an answer")
        self.question = question


class OtherChanges:
    """What a walk changed at an object of the shape "other"."""

    def __init__(self):
        # The first fields with new values, the first fields that were dropped, and the fields put since, in order.
        self._news = {}
        self._dropped = {}
        self._put = {}

    def parts(self):
        """Return the tuple of the three dicts."""
        return (dict(self._news), dict(self._dropped), dict(self._put))

    def is_told(self, field):
        """Return whether it is told by a change whether the object has a field."""
        return field in self._news or field in self._dropped or field in self._put

    def content(self, field):
        """Return the content of a field as it was changed, or None if it was dropped."""
        return self._put.get(field, self._news.get(field))

    def write(self, field, content, is_had):
        """Give a field, which the object has or not, a content."""
        if field in self._put or not is_had:
            self._put[field] = content
        else:
            self._news[field] = content

    def drop(self, field):
        """Take a field, which the object has, away."""
        if field in self._put:
            self._put.pop(field)
        else:
            self._news.pop(field, None)
            self._dropped[field] = True


class TermHeld:
    """What a walk holds at a branch. An object is ("known", o) or ("fresh", number).

    A method raises Needed where the branch does not tell what it needs. A method that raises changes nothing.
    """

    def __init__(self, branch):
        self._branch = branch
        self._globals = {}
        self._shown = []
        # The pairs (parent, fields) of the fresh objects, and of the known objects that were changed.
        self._fresh = []
        self._changed = {}
        # The changes of the known objects of the shape "other".
        self._others = {}

    def parts(self):
        """Return the tuple of the globals that were set, what was shown, and the changed and the other objects."""
        others = {o: self._others[o].parts() for o in self._others}
        return (dict(self._globals), list(self._shown), dict(self._changed), others)

    def kind(self, term):
        """Return the kind of a term."""
        kind = self._branch.kind(term)
        if kind is None:
            raise Needed(("kind", term))
        return kind

    def settled(self, term):
        """Return the meaning of a term."""
        meaning = self._branch.meaning(term)
        if meaning is None:
            raise Needed(self._branch.settling(term))
        return meaning

    def object_at(self, term):
        """Return the object for which a term stands, or None if it is no object. Its shape is needed by all who ask."""
        return self.settled(term) if self.kind(term) == "obj" else None

    def thrown_object_at(self, term):
        """Return the object for which a term stands; throw if it is none."""
        found = self.object_at(term)
        if found is None:
            raise Thrown(error_term("object"))
        return found

    def plain(self, thing):
        """Return the pair of the parent of an object, whose shape is not other, and of its fields with their terms."""
        if thing[0] == "fresh":
            return self._fresh[thing[1]]
        o = thing[1]
        if o in self._changed:
            return self._changed[o]
        _, fields = self._shape(o)
        return (self.parent(thing), tuple([(field, ("field", o, field)) for field in fields]))

    def is_shaped(self, thing, shape):
        """Return whether an object has a shape in the version."""
        if self._is_other(thing):
            return False
        root = self._branch.ground().object_number(shape[0])
        parent, fields = self.plain(thing)
        return parent == known_or_none(root) and tuple([field for field, _ in fields]) == shape[1]

    def parent(self, thing):
        """Return the object that is the parent of an object, or None."""
        if thing[0] == "fresh":
            return self._fresh[thing[1]][0]
        self._shape(thing[1])
        parent = self._branch.parent(thing[1])
        if parent is None:
            raise Needed(("parent", thing[1]))
        return None if parent == "none" else ("known", parent)

    def own(self, thing, field):
        """Return the content of an own field of an object, or None if it does not have the field."""
        if not self._is_other(thing):
            return content_in(self.plain(thing), field)
        o = thing[1]
        if o in self._others and self._others[o].is_told(field):
            return self._others[o].content(field)
        is_had = self._branch.has(o, field)
        if is_had is None:
            raise Needed(("has", o, field))
        return ("field", o, field) if is_had else None

    def found(self, term, field):
        """Return what the look-up of a field from a term finds."""
        thing = self.thrown_object_at(term)
        while thing is not None:
            content = self.own(thing, field)
            if content is not None:
                return content
            thing = self.parent(thing)
        raise Thrown(error_term("field"))

    def new_object(self, term):
        """Make a fresh object whose parent is that of a term, and return its term."""
        parent = None if self.kind(term) == "none" else self.thrown_object_at(term)
        above = parent
        for _ in range(MOST_ABOVE):
            above = None if above is None else self.parent(above)
        if above is not None:
            raise Thrown(error_term("deep"))
        self._fresh.append((parent, ()))
        return ("fresh", len(self._fresh) - 1)

    def set_own(self, term, field, content):
        """Give the object of a term this content of a field."""
        thing = self.thrown_object_at(term)
        old = self.own(thing, field)
        if self._is_other(thing):
            self._others.setdefault(thing[1], OtherChanges()).write(field, content, old is not None)
        else:
            self._change(thing, with_field(self.plain(thing), field, content))

    def drop_own(self, term, field):
        """Take a field from the object of a term."""
        thing = self.thrown_object_at(term)
        if self.own(thing, field) is None:
            raise Thrown(error_term("field"))
        if self._is_other(thing):
            self._others.setdefault(thing[1], OtherChanges()).drop(field)
        else:
            self._change(thing, without_field(self.plain(thing), field))

    def global_value(self, name):
        """Return the term of the value of a global."""
        if name in self._globals:
            return self._globals[name]
        if self.kind(("global", name)) == UNSET:
            raise Thrown(error_term("global"))
        return ("global", name)

    def put(self, name, term):
        """Give a global this value."""
        self._globals[name] = term

    def show(self, term):
        """Show a value."""
        self._shown.append(term)

    def _shape(self, o):
        """Return the answered shape of a known object."""
        shape = self._branch.shape(o)
        if shape is None:
            raise Needed(("shape", o))
        return shape

    def _is_other(self, thing):
        """Return whether an object is a known one of the shape "other"."""
        return thing[0] == "known" and self._shape(thing[1]) == OTHER

    def _change(self, thing, plain):
        """Let an object, whose shape is not other, have other fields."""
        if thing[0] == "fresh":
            self._fresh[thing[1]] = plain
        else:
            self._changed[thing[1]] = plain


def error_term(word):
    """Return the term of an error."""
    return ("value", ("err", word))


def known_or_none(o):
    """Return the known object with a number, or None."""
    return None if o is None else ("known", o)


def content_in(plain, field):
    """Return the content of a field of a pair (parent, fields), or None."""
    return dict(plain[1])[field] if has_field(plain, field) else None
