"""Signatures: kinds of tokens, and primitives with their variants (S2.2)."""

from shapeguess.errors import BadName, BadVariant, TwiceTold, UnknownName
from shapeguess.values import is_kind_word, is_word


class Signature:
    """The kinds and the primitives that a program may use."""

    def __init__(self, kinds, primitives):
        check_kinds(kinds)
        self._kinds = tuple(kinds)
        self._owners = owners_of(self._kinds, primitives)
        self._primitives = {name: tuple(primitives[name]) for name in primitives}

    def kinds(self):
        """Return the list of the kinds."""
        return list(self._kinds)

    def primitives(self):
        """Return the list of the names of the primitives."""
        return list(self._primitives)

    def variants(self, name):
        """Return the list of the variants of a primitive."""
        if not isinstance(name, str) or name not in self._primitives:
            raise UnknownName(name)
        return list(self._primitives[name])

    def variant(self, name):
        """Return the tuple (primitive, kinds, result) of a variant."""
        if not isinstance(name, str) or name not in self._owners:
            raise UnknownName(name)
        return self._owners[name]

    def has_kind(self, value):
        """Return whether anything is a kind of this signature: True or False."""
        return value in self._kinds

    def __eq__(self, other):
        if not isinstance(other, Signature) or self._kinds != other._kinds:
            return False
        # Dicts are equal in any order, but the order of the primitives counts here.
        return list(self._primitives.items()) == list(other._primitives.items())


def check_kinds(kinds):
    """Raise BadName or TwiceTold for the first wrong kind."""
    for kind in kinds:
        if not is_kind_word(kind):
            raise BadName(kind)
    for number, kind in enumerate(kinds):
        if kind in kinds[:number]:
            raise TwiceTold(kind)


def owners_of(kinds, primitives):
    """Return the dict from the names of variants to (primitive, kinds, result); raise the errors of S2.2."""
    owners = {}
    for primitive in primitives:
        if not is_word(primitive):
            raise BadName(primitive)
        for name, wanted, result in primitives[primitive]:
            if not is_word(name):
                raise BadName(name)
            if name in owners:
                raise TwiceTold(name)
            row = (primitive, wanted, result)
            if not are_known(kinds, wanted, result) or is_ambiguous(owners, row):
                raise BadVariant(name)
            owners[name] = row
    return owners


def are_known(kinds, wanted, result):
    """Return whether wanted, which may be anything, and result are right for a variant."""
    if not isinstance(wanted, tuple) or len(wanted) not in (1, 2):
        return False
    return all([kind in kinds for kind in wanted]) and (result == "bit" or result in kinds)


def is_ambiguous(owners, row):
    """Return whether an earlier variant of the same primitive has the same kinds."""
    return any([earlier[:2] == row[:2] for earlier in owners.values()])


def variant_for(signature, name, kinds):
    """Return the name of the variant of a primitive for a tuple of kinds, or None."""
    for variant, wanted, _ in signature.variants(name):
        if wanted == kinds:
            return variant
    return None
