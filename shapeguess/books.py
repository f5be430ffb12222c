"""Books: what the variants of a signature do, told by tables (S2.3)."""

from shapeguess.errors import BadBook, BadVariant, UnknownName
from shapeguess.values import is_index, is_number, is_value, kind_of


class Book:
    """The sizes of the kinds and the tables of the variants of a signature."""

    def __init__(self, signature, sizes, tables):
        check_sizes(signature, sizes)
        check_tables(signature, sizes, tables)
        self._signature = signature
        self._sizes = dict(sizes)
        self._tables = {name: tuple(tables[name]) for name in tables}

    def signature(self):
        """Return the signature."""
        return self._signature

    def size(self, kind):
        """Return the size of a kind."""
        if not isinstance(kind, str) or kind not in self._sizes:
            raise UnknownName(kind)
        return self._sizes[kind]

    def table(self, name):
        """Return the list of the results of a variant."""
        if not isinstance(name, str) or name not in self._tables:
            raise UnknownName(name)
        return list(self._tables[name])

    def has_token(self, value):
        """Return whether anything is a token of this book: True or False."""
        if not is_value(value) or value[0] != "tok" or value[1] not in self._sizes:
            return False
        return value[2] < self._sizes[value[1]]

    def __eq__(self, other):
        if not isinstance(other, Book) or self._signature != other._signature:
            return False
        return self._sizes == other._sizes and self._tables == other._tables


def check_sizes(signature, sizes):
    """Raise BadBook for the first kind without a right size, then for the first key that is no kind."""
    for kind in signature.kinds():
        if kind not in sizes or not is_number(sizes[kind]) or sizes[kind] < 1:
            raise BadBook(kind)
    for kind in sizes:
        if not signature.has_kind(kind):
            raise BadBook(kind)


def check_tables(signature, sizes, tables):
    """Raise BadBook for the first variant without a right table, then for the first key that is no variant."""
    known = {}
    for primitive in signature.primitives():
        for name, kinds, result in signature.variants(primitive):
            known[name] = True
            if name not in tables or not is_table(sizes, kinds, result, tables[name]):
                raise BadBook(name)
    for name in tables:
        if name not in known:
            raise BadBook(name)


def is_table(sizes, kinds, result, table):
    """Return whether anything is a list with one right result for each choice of tokens of the kinds."""
    choices = 1
    for kind in kinds:
        choices = choices * sizes[kind]
    if not isinstance(table, (list, tuple)) or len(table) != choices:
        return False
    if result == "bit":
        return all([entry == "yes" or entry == "no" for entry in table])
    return all([is_index(entry, sizes[result]) for entry in table])


def apply(book, name, values):
    """Return the value that a variant gives for a tuple of tokens of the book."""
    _, kinds, result = book.signature().variant(name)
    if not isinstance(values, (list, tuple)) or not all([book.has_token(value) for value in values]):
        raise BadVariant(name)
    if tuple([kind_of(value) for value in values]) != kinds:
        raise BadVariant(name)
    place = 0
    for kind, value in zip(kinds, values):
        place = place * book.size(kind) + value[2]
    entry = book.table(name)[place]
    return ("bit", entry) if result == "bit" else ("tok", result, entry)
