"""Whether what two walks come to is alike (S8.7)."""

from shapeguess.branches import UNSET


class Comparison:
    """The comparison of two walks at a branch, each of which has its own fresh objects."""

    def __init__(self, branch, mine, theirs):
        self._branch = branch
        self._mine = mine
        self._theirs = theirs
        self._forth = {}
        self._back = {}

    def loose_pairs(self, pairs):
        """Return the list of the pairs of terms that do not match but may be equal, or None if it cannot be alike.

        What must match besides the pairs that are passed is what the walks hold.
        """
        more = held_pairs(self._mine, self._theirs)
        if more is None:
            return None
        todo = more + list(pairs)
        loose = []
        while todo:
            one, other = todo.pop()
            if one[0] == "fresh" and other[0] == "fresh":
                inside = self._paired(one, other)
                if inside is None:
                    return None
                todo.extend(inside)
            elif self._branch.gist(one) != self._branch.gist(other):
                if not self._may_be_equal(one, other):
                    return None
                loose.append((one, other))
        return loose

    def _paired(self, one, other):
        """Pair two fresh objects; return the list of what must match then, or None if they cannot be paired."""
        if one in self._forth or other in self._back:
            return [] if self._forth.get(one) == other else None
        self._forth[one] = other
        self._back[other] = one
        parent, fields = self._mine.plain(one)
        other_parent, other_fields = self._theirs.plain(other)
        inside = field_pairs(fields, other_fields)
        if inside is None or (parent is None) != (other_parent is None):
            return None
        return inside if parent is None else inside + [(parent, other_parent)]

    def _is_unset(self, term):
        """Return whether a term is a global that has no value."""
        return self._branch.kind(term) == UNSET

    def _may_be_equal(self, one, other):
        """Return whether two terms that do not match may be equal."""
        if "fresh" in (one[0], other[0]) or self._is_unset(one) or self._is_unset(other):
            return False
        kind, other_kind = self._branch.kind(one), self._branch.kind(other)
        if kind is not None and other_kind is not None and kind != other_kind:
            return False
        return self._branch.meaning(one) is None or self._branch.meaning(other) is None


def held_pairs(mine, theirs):
    """Return the list of the pairs of terms that must match in what two walks hold, or None if it cannot be alike."""
    globals_mine, shown, changed, others = mine.parts()
    globals_theirs, shown_theirs, changed_theirs, others_theirs = theirs.parts()
    if len(shown) != len(shown_theirs):
        return None
    pairs = list(zip(shown, shown_theirs))
    for name in {**globals_mine, **globals_theirs}:
        start = ("global", name)
        pairs.append((globals_mine.get(name, start), globals_theirs.get(name, start)))
    inside = []
    unchanged = ({}, {}, {})
    for o in {**changed, **changed_theirs}:
        inside.append(field_pairs(mine.plain(("known", o))[1], theirs.plain(("known", o))[1]))
    for o in {**others, **others_theirs}:
        inside.append(other_pairs(o, others.get(o, unchanged), others_theirs.get(o, unchanged)))
    if None in inside:
        return None
    return pairs + [pair for found in inside for pair in found]


def other_pairs(o, mine, theirs):
    """Return the list of the pairs of contents that must match at an object of the shape "other", or None."""
    news, dropped, put = mine
    news_theirs, dropped_theirs, put_theirs = theirs
    if sorted(dropped) != sorted(dropped_theirs):
        return None
    pairs = field_pairs(tuple(put.items()), tuple(put_theirs.items()))
    if pairs is None:
        return None
    for field in {**news, **news_theirs}:
        start = ("field", o, field)
        pairs.append((news.get(field, start), news_theirs.get(field, start)))
    return pairs


def field_pairs(fields, others):
    """Return the list of the pairs of contents of equal fields, or None if the fields are not equal in order."""
    if [field for field, _ in fields] != [field for field, _ in others]:
        return None
    return [(content, other) for (_, content), (_, other) in zip(fields, others)]
