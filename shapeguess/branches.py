"""Branches: what questions with their answers tell of the values of a start (S8.3, S8.4)."""

from shapeguess.factparts import registers_in
from shapeguess.knowing import kind_of_mark
from shapeguess.plainobjects import MOST_ABOVE
from shapeguess.quickforms import quick_registers_in
from shapeguess.values import NONE, kind_of

OTHER = "other"
FURTHER = "further"
UNSET = "unset"


class Point:
    """What the point of a branch tells, whatever was answered: its start terms and its facts about terms."""

    def __init__(self, ground, k):
        self._ground = ground
        self._k = k
        _, self._facts, self._pairs = ground.version().point(k)
        self._starts = joined_starts(quick_registers_in(self._pairs), self._facts)
        self._unlike = [(self.start_at(fact[1]), self.start_at(fact[2])) for fact in self._facts if fact[0] == "unlike"]
        self._shaped = [(self.start_at(fact[1]), fact[2]) for fact in self._facts if fact[0] == "shape"]

    def ground(self):
        """Return the ground."""
        return self._ground

    def k(self):
        """Return the number of the point."""
        return self._k

    def facts(self):
        """Return the list of the facts of the point."""
        return list(self._facts)

    def pairs(self):
        """Return the list of the pairs of a live register and its place."""
        return list(self._pairs)

    def has_start(self, q):
        """Return whether the start value of a quick register is that of a place."""
        return q in self._starts

    def start_at(self, q):
        """Return the term of the start value of a quick register that is a place."""
        return ("start", self._starts[q])

    def unlike(self):
        """Return the list of the pairs of terms of the "unlike" facts."""
        return list(self._unlike)

    def shaped(self):
        """Return the list of the pairs of a term and a shape of the "shape" facts."""
        return list(self._shaped)


def joined_starts(places, facts):
    """Return the dict from quick registers to the least one with which "same" facts join them."""
    starts = {place: place for place in places}
    for fact in facts:
        if fact[0] == "same":
            kept, gone = sorted([starts[place] for place in registers_in(fact)])
            starts = {place: kept if starts[place] == gone else starts[place] for place in starts}
    return starts


def first_branch(ground, k):
    """Return the branch of a point at which nothing was asked yet."""
    branch = Branch(Point(ground, k))
    branch.take_facts()
    return branch


class Branch:
    """What is known of the terms and of the known objects of a point, by facts and answers.

    A branch stays as it is when it is extended.
    """

    def __init__(self, point):
        self._point = point
        self._ground = point.ground()
        self._kinds = {}
        # The meanings of start, field and global terms.
        self._meanings = {}
        # The variant terms that were answered, with their meanings, and the meanings by the keys of variant terms.
        self._answered = []
        self._variant_meanings = {}
        # The keys of variant terms, as far as they were worked out for this branch.
        self._keys = {}
        self._shapes = {}
        self._has = {}
        self._parents = {}
        # The number of the known values of each kind, and of the known objects.
        self._counts = {}
        self._is_impossible = False

    def point(self):
        """Return the point."""
        return self._point

    def ground(self):
        """Return the ground."""
        return self._ground

    def is_impossible(self):
        """Return whether no start follows the branch."""
        return self._is_impossible

    def many_known(self, kind):
        """Return the number of the known values of a kind, or of the known objects."""
        return self._counts[kind]

    def kind(self, term):
        """Return the known kind of a term, or None."""
        if term[0] == "value":
            return kind_of(term[1])
        if term[0] == "known" or term[0] == "fresh":
            return "obj"
        if term[0] == "variant":
            return self._ground.result_kind(term)
        return self._kinds.get(term)

    def meaning(self, term):
        """Return the meaning of a settled term, or None."""
        if term[0] == "known" or term[0] == "fresh":
            return term
        if term[0] == "value":
            return self._ground.meaning_of_value(term[1])
        if term[0] == "variant":
            return self._variant_meanings.get(self._key(term))
        return self._meanings.get(term)

    def gist(self, term):
        """Return what a term comes to: equal things for terms that are one, count as one, or are settled and equal."""
        meaning = self.meaning(term)
        if meaning is not None:
            return meaning
        return ("class", self._key(term)) if term[0] == "variant" else term

    def shape(self, o):
        """Return the answered shape of a known object, OTHER among them, or None."""
        return self._shapes.get(o)

    def has(self, o, field):
        """Return whether a known object has an own field, or None if this is not answered."""
        shape = self.shape(o)
        if shape is not None and shape != OTHER:
            return field in shape[1]
        return self._has.get((o, field))

    def had_fields(self, o):
        """Return the list of the fields that a known object was answered to have, other than by its shape."""
        return [pair[1] for pair in self._has if pair[0] == o and self._has[pair]]

    def parent(self, o):
        """Return the answered parent of a known object, a number or "none", or None if it is not answered."""
        shape = self.shape(o)
        if shape is None or shape == OTHER:
            return self._parents.get(o)
        root = self._ground.object_number(shape[0])
        return "none" if root is None else root

    def answered_variants(self):
        """Return the list of the variant terms that were answered."""
        return [term for term, _ in self._answered]

    def first_loose(self):
        """Return the first term of an "unlike" or "shape" fact of the point that is not settled, or None."""
        terms = [term for pair in self._point.unlike() for term in pair]
        for term in terms + [term for term, _ in self._point.shaped()]:
            if self.meaning(term) is None:
                return term
        return None

    def settling(self, term):
        """Return the question about a term that is not settled which comes next until it is."""
        kind = self.kind(term)
        if kind is None:
            return ("kind", term)
        return ("bit" if kind == "bit" else "which", term)

    def extended(self, question, answer):
        """Return the branch with one more pair of a question that stands and one of its answers."""
        other = Branch(self._point)
        other._kinds = dict(self._kinds)
        other._meanings = {term: self._meanings[term] for term in self._meanings}
        other._answered = list(self._answered)
        other._shapes = dict(self._shapes)
        other._has = {pair: self._has[pair] for pair in self._has}
        other._parents = dict(self._parents)
        other._counts = dict(self._counts)
        other._take(question, answer)
        other._conclude()
        return other

    def take_facts(self):
        """Take the first known values and objects, and what the facts of the point and the watched facts tell."""
        self._counts = {kind: len(self._ground.first_values(kind)) for kind in self._ground.kinds_of_known()}
        self._counts["obj"] = len(self._ground.version().names())
        for fact in self._point.facts():
            if fact[0] in ("kind", "is", "shape"):
                self._take_register_fact(fact, self._point.start_at(fact[1]))
        for fact in self._ground.version().watched():
            self._take_watched(fact)
        self._conclude()

    def _take_register_fact(self, fact, term):
        """Take what a "kind", "is" or "shape" fact tells of a term."""
        if fact[0] == "kind":
            self._tell_kind(term, fact[2])
        elif fact[0] == "is":
            self._tell_mark(term, fact[2])
        else:
            self._tell_kind(term, "obj")

    def _take_watched(self, fact):
        """Take what a watched fact tells."""
        if fact[0] == "global":
            self._tell_mark(("global", fact[1]), fact[2])
            return
        o = self._ground.object_number(fact[1])
        if fact[0] == "holds":
            self._tell(self._shapes, o, fact[2])
        else:
            self._tell(self._has, (o, fact[2]), True)
            self._tell_mark(("field", o, fact[2]), fact[3])

    def _take(self, question, answer):
        """Take an answer to a question."""
        word, told = question[:2]
        if word == "kind":
            self._tell_kind(told, answer)
        elif word == "bit":
            self._tell_meaning(told, ("value", (word, answer)))
        elif word == "which":
            kind = self.kind(told)
            number = self._number_told(kind, answer)
            self._tell_meaning(told, ("known", number) if kind == "obj" else ("mark", kind, number))
        elif word == "shape":
            self._tell(self._shapes, told, answer)
        elif word == "has":
            self._tell(self._has, question[1:], answer == "yes")
        else:
            self._tell(self._parents, told, self._number_told("obj", answer))

    def _number_told(self, kind, answer):
        """Return the number for which an answer stands; make one more object or value known where it is further."""
        if answer != FURTHER:
            return answer
        self._counts[kind] = self._counts[kind] + 1
        return self._counts[kind] - 1

    def _tell(self, table, key, told):
        """Put what is told into a table; what is told already must be equal."""
        if table.setdefault(key, told) != told:
            self._is_impossible = True

    def _tell_kind(self, term, kind):
        """Tell the kind of a term, which settles it if it is none."""
        self._tell(self._kinds, term, kind)
        if kind == "none":
            self._tell_meaning(term, ("value", NONE))

    def _tell_mark(self, term, mark):
        """Tell the mark of a term."""
        self._tell_kind(term, kind_of_mark(mark))
        self._tell_meaning(term, self.meaning(self._ground.mark_term(mark)))

    def _tell_meaning(self, term, meaning):
        """Tell the meaning of a term."""
        if term[0] == "variant":
            self._answered.append((term, meaning))
        else:
            self._tell(self._meanings, term, meaning)

    def _conclude(self):
        """Take what follows from what was told, and find out whether it is impossible."""
        self._settle_variants()
        for term, shape in self._point.shaped():
            meaning = self.meaning(term)
            if meaning is not None and meaning[0] == "known":
                self._tell(self._shapes, meaning[1], shape)
        if any([self.has(o, field) != is_had for (o, field), is_had in self._has.items()]):
            self._is_impossible = True
        if any([self.gist(one) == self.gist(other) for one, other in self._point.unlike()]):
            self._is_impossible = True
        if any([self._is_too_deep(o) for o in self._shapes]):
            self._is_impossible = True

    def _settle_variants(self):
        """Settle the variant terms that were answered, and those that count as one with them."""
        many = -1
        # What is settled may let further terms come to the same. Keys that no term has any more do no harm.
        while many < len(self._variant_meanings):
            many = len(self._variant_meanings)
            for term, meaning in self._answered:
                self._keys = {}
                self._tell(self._variant_meanings, self._key(term), meaning)

    def _key(self, term):
        """Return the number that stands for a variant term and all that count as one with it."""
        if term not in self._keys:
            name, args = self._ground.variant_parts(term)
            self._keys[term] = self._ground.key_number(name, tuple([self.gist(arg) for arg in args]))
        return self._keys[term]

    def _is_too_deep(self, o):
        """Return whether too many objects are above a known object, as there are where it is above itself."""
        above = 0
        parent = self.parent(o)
        while parent is not None and parent != "none" and above <= MOST_ABOVE:
            above = above + 1
            parent = self.parent(parent)
        return above > MOST_ABOVE
