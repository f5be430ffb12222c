"""What the branches of a program and a version have in common (S8.2, S8.3).

Inside the package a variant term is ("variant", number), so that terms never are deeper than their names: the ground
keeps the name and the arguments. What a settled term stands for is its meaning: ("value", v) for none and a bit,
("known", o) for an object, and ("mark", kind, number) for a known value.
"""

from shapeguess.compiling import compiled
from shapeguess.terms import candidates, first_values
from shapeguess.values import RESERVED, kind_of
from shapeguess.versionparts import fields_in, globals_in, plain_rows_of

NONE_TERM = ("value", ("none",))


class Ground:
    """A program and a version, with what is asked of them again and again, and the variant terms met so far."""

    def __init__(self, program, version):
        self._program = program
        self._version = version
        self._signature = program.signature()
        self._codes = compiled(program)
        self._rows = version.rows()
        self._candidates = candidates(version)
        plain = plain_rows_of(self._codes)
        self._fields = {field: True for field in fields_in(plain, version)}
        self._globals = globals_in(plain, version)
        self._values = {kind: first_values(self._codes, version, kind) for kind in self.kinds_of_known()}
        self._numbers = {value: at for values in self._values.values() for at, value in enumerate(values)}
        self._objects = {name: number for number, name in enumerate(version.names())}
        # For each variant term: its name and its arguments, and the term as it is told outside.
        self._variants = []
        self._told = []
        self._variant_numbers = {}
        self._key_numbers = {}

    def program(self):
        """Return the program."""
        return self._program

    def version(self):
        """Return the version."""
        return self._version

    def signature(self):
        """Return the signature of the program."""
        return self._signature

    def codes(self):
        """Return the dict from the names of the functions to their codes."""
        return dict(self._codes)

    def row(self, number):
        """Return a quick row."""
        return self._rows[number]

    def kinds(self):
        """Return the list of all kinds."""
        return list(RESERVED) + self._signature.kinds()

    def kinds_of_known(self):
        """Return the list of the kinds whose known values are numbered."""
        return ["err", "fun"] + self._signature.kinds()

    def candidates(self):
        """Return the list of the candidates for shapes."""
        return list(self._candidates)

    def is_field(self, word):
        """Return whether a word stands somewhere where a field stands."""
        return word in self._fields

    def globals_of_rows(self):
        """Return the list of the globals of rows and of watched facts."""
        return list(self._globals)

    def first_values(self, kind):
        """Return the list of the first known values of a kind."""
        return list(self._values[kind])

    def object_number(self, name):
        """Return the number of the known object of a name of the version, or None where no name is."""
        return None if name is None else self._objects[name]

    def has_variant(self, name):
        """Return whether anything is the name of a variant."""
        for primitive in self._signature.primitives():
            if name in [variant[0] for variant in self._signature.variants(primitive)]:
                return True
        return False

    def meaning_of_value(self, value):
        """Return the meaning of none, a bit or a first known value, or None if a value is none of them."""
        if value[0] == "none" or value[0] == "bit":
            return ("value", value)
        if value not in self._numbers:
            return None
        return ("mark", kind_of(value), self._numbers[value])

    def mark_term(self, mark):
        """Return the term of a mark."""
        if mark[0] == "name":
            return ("known", self._objects[mark[1]])
        return ("value", mark)

    def variant_term(self, name, args):
        """Return the term of a variant for a tuple of terms."""
        pair = (name, args)
        if pair not in self._variant_numbers:
            self._variant_numbers[pair] = len(self._variants)
            self._variants.append(pair)
            self._told.append(("variant", name, tuple([self.told(arg) for arg in args])))
        return ("variant", self._variant_numbers[pair])

    def variant_parts(self, term):
        """Return the name of a variant term and the tuple of its arguments."""
        return self._variants[term[1]]

    def result_kind(self, term):
        """Return the kind of a variant term."""
        return self._signature.variant(self._variants[term[1]][0])[2]

    def told(self, term):
        """Return a term as it is told outside."""
        return self._told[term[1]] if term[0] == "variant" else term

    def key_number(self, name, args):
        """Return the number that stands for a variant and what its arguments come to at a branch."""
        return self._key_numbers.setdefault((name, args), len(self._key_numbers))
