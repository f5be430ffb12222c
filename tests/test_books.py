"""Books (S2.3); shapeguess/books.py."""

import unittest

from samples import NONE, STRANGE, YES, ground, ground_book, num
from shapeguess.books import Book, apply
from shapeguess.errors import BadBook, BadVariant, UnknownName
from shapeguess.signatures import Signature

COL = ("tok", "col", 0)
SIZES = {"num": 3, "col": 2}
TABLES = {
    "addnum": [0, 1, 2, 1, 2, 0, 2, 0, 1],
    "paint": [0, 1, 1, 0, 0, 1],
    "negnum": [0, 2, 1],
    "lessnum": ["no", "yes", "yes", "no", "no", "yes", "no", "no", "no"],
}


def other(told, key, thing):
    """A copy of a dict with another thing under a key."""
    return {**told, key: thing}


def without(told, key):
    return {k: told[k] for k in told if k != key}


class Errors(unittest.TestCase):
    def refused(self, name, sizes, tables):
        with self.assertRaises(BadBook) as caught:
            Book(ground(), sizes, tables)
        self.assertEqual(caught.exception.name, name)

    def test_sizes(self):
        for size in (0, -1, True, False, None, "3", [3], (3,), {}, "", -10 ** 40):
            self.refused("col", other(SIZES, "col", size), TABLES)
            self.refused("num", other(SIZES, "num", size), TABLES)
        self.refused("num", without(SIZES, "num"), TABLES)
        self.refused("num", {}, TABLES)

    def test_sizes_in_the_order_of_the_signature(self):
        self.refused("num", {"col": 0, "num": 0}, {})
        self.refused("col", {"x": 0, "num": 1}, {})

    def test_keys_that_are_no_kinds(self):
        for key in ("x", "none", "bit", "add", "addnum", ""):
            self.refused(key, {key: 1, **SIZES, "y": 1}, {})
            self.refused(key, {**SIZES, key: None, "y": 1}, {})

    def test_sizes_come_before_tables(self):
        self.refused("x", other(SIZES, "x", 1), {})
        self.refused("addnum", SIZES, {})

    def test_tables_that_are_no_lists(self):
        for table in (None, True, 0, "nnn", "abc", {}, {0: 0, 1: 1, 2: 2}, ground()):
            self.refused("negnum", SIZES, other(TABLES, "negnum", table))
        for name in TABLES:
            self.refused(name, SIZES, without(TABLES, name))

    def test_lengths_of_tables(self):
        for name, table in TABLES.items():
            for wrong in ([], table[:-1], table + table[:1], table * 2):
                self.refused(name, SIZES, other(TABLES, name, wrong))

    def test_entries_that_are_numbers(self):
        for entry in (-1, 3, True, False, None, "0", "no", "yes", num(0), [0], (), 10 ** 40):
            for at in range(3):
                table = [0, 2, 1]
                table[at] = entry
                self.refused("negnum", SIZES, other(TABLES, "negnum", table))
        for at in range(6):
            table = [0, 1, 1, 0, 0, 1]
            table[at] = 2
            # The result of paint is of the kind col, of which there are two.
            self.refused("paint", SIZES, other(TABLES, "paint", table))

    def test_entries_that_are_bits(self):
        for entry in (0, 1, True, False, None, "", "Yes", "none", YES, ["yes"]):
            self.refused("lessnum", SIZES, other(TABLES, "lessnum", TABLES["lessnum"][:8] + [entry]))

    def test_tables_in_the_order_of_the_signature(self):
        self.refused("addnum", SIZES, {"lessnum": 0, "negnum": 0, "paint": 0, "addnum": 0, "x": 0})
        self.refused("paint", SIZES, {"x": 0, "lessnum": 0, "negnum": 0, "addnum": TABLES["addnum"]})

    def test_keys_that_are_no_variants(self):
        for key in ("x", "add", "idle", "num", "bit", ""):
            self.refused(key, SIZES, {key: [0], **TABLES, "y": []})
            self.refused(key, SIZES, {**TABLES, key: [0], "y": []})


class Parts(unittest.TestCase):
    def test_parts(self):
        book = Book(ground(), SIZES, TABLES)
        self.assertEqual(book.signature(), ground())
        for kind, size in SIZES.items():
            self.assertEqual(book.size(kind), size)
        for name, table in TABLES.items():
            self.assertEqual(book.table(name), table)
            self.assertIsInstance(book.table(name), list)

    def test_unknown(self):
        book = ground_book()
        for thing in STRANGE + ("addnum", "bit", "none", "add"):
            with self.assertRaises(UnknownName) as caught:
                book.size(thing)
            self.assertIs(caught.exception.name, thing)
        for thing in STRANGE + ("num", "bit", "add", "idle"):
            with self.assertRaises(UnknownName) as caught:
                book.table(thing)
            self.assertIs(caught.exception.name, thing)

    def test_nothing_is_kept_and_what_is_told_is_new(self):
        sizes = dict(SIZES)
        table = [0, 2, 1]
        tables = other(TABLES, "negnum", table)
        book = Book(ground(), sizes, tables)
        sizes["num"] = 1
        table[0] = 7
        tables["paint"] = []
        book.table("negnum").clear()
        self.assertEqual(book, ground_book())
        self.assertEqual(book.size("num"), 3)
        self.assertEqual(book.table("negnum"), [0, 2, 1])

    def test_nothing_passed_is_modified(self):
        sizes = dict(SIZES)
        tables = {name: list(table) for name, table in TABLES.items()}
        Book(ground(), sizes, tables)
        self.assertEqual((sizes, tables), (SIZES, TABLES))

    def test_tuples_for_lists(self):
        book = Book(ground(), SIZES, {name: tuple(table) for name, table in TABLES.items()})
        self.assertEqual(book, ground_book())
        self.assertEqual(book.table("negnum"), [0, 2, 1])

    def test_without_anything(self):
        Book(Signature([], {}), {}, {})
        Book(Signature([], {"p": []}), {}, {})

    def test_one_token(self):
        signature = Signature(["a"], {"p": [("v", ("a", "a"), "a")]})
        book = Book(signature, {"a": 1}, {"v": [0]})
        self.assertEqual(apply(book, "v", (("tok", "a", 0), ("tok", "a", 0))), ("tok", "a", 0))

    def test_very_many_tokens(self):
        signature = Signature(["a", "b"], {"p": [("v", ("b",), "a")]})
        book = Book(signature, {"a": 10 ** 40, "b": 1}, {"v": [10 ** 40 - 1]})
        self.assertTrue(book.has_token(("tok", "a", 10 ** 40 - 1)))
        self.assertFalse(book.has_token(("tok", "a", 10 ** 40)))
        self.assertEqual(apply(book, "v", [("tok", "b", 0)]), ("tok", "a", 10 ** 40 - 1))


class Tokens(unittest.TestCase):
    def test_has_token(self):
        book = ground_book()
        for token in (num(0), num(1), num(2), COL, ("tok", "col", 1)):
            self.assertIs(book.has_token(token), True)
        wrong = STRANGE + (
            num(3), num(10 ** 40), ("tok", "col", 2), ("tok", "num", -1), ("tok", "num", False), ("tok", "dog", 0),
            ("tok", "none", 0), ["tok", "num", 0], ("tok", "num"), ("tok", ["num"], 0), ("tok", "num", [0]), NONE,
            YES, ("err", "num"), ("fun", "num"), ("obj", 0), ("num", 0), book, (book,), ("tok", book, 0),
        )
        for thing in wrong:
            self.assertIs(book.has_token(thing), False)


class Apply(unittest.TestCase):
    def test_one_argument(self):
        for number, result in enumerate((0, 2, 1)):
            self.assertEqual(apply(ground_book(), "negnum", (num(number),)), num(result))

    def test_two_arguments(self):
        book = ground_book()
        for first in range(3):
            for second in range(3):
                values = (num(first), num(second))
                self.assertEqual(apply(book, "addnum", values), num((first + second) % 3))
                self.assertEqual(apply(book, "lessnum", values), ("bit", "yes" if first < second else "no"))
            for second in range(2):
                result = apply(book, "paint", [num(first), ("tok", "col", second)])
                self.assertEqual(result, ("tok", "col", TABLES["paint"][2 * first + second]))

    def test_unknown_variants(self):
        for thing in STRANGE + ("add", "num", "idle"):
            for values in ((num(0), num(0)), None, ()):
                with self.assertRaises(UnknownName) as caught:
                    apply(ground_book(), thing, values)
                self.assertIs(caught.exception.name, thing)

    def test_values_that_do_not_fit(self):
        wrong = STRANGE + (
            (num(0),), (num(0), num(0), num(0)), (num(0), COL), (num(0), num(3)), (num(0), NONE), (num(0), YES),
            (num(0), ["tok", "num", 0]), (num(0), ("tok", "num", True)), (num(0), None), (num(0), ("obj", 0)),
            "ab", {num(0): 1, num(1): 2}, num(0), (num(0), []), [num(0)],
        )
        for values in wrong:
            with self.assertRaises(BadVariant) as caught:
                apply(ground_book(), "addnum", values)
            self.assertEqual(caught.exception.name, "addnum")
        for values in ((COL, num(0)), (num(0), num(0))):
            with self.assertRaises(BadVariant):
                apply(ground_book(), "paint", values)


class Equality(unittest.TestCase):
    def test_equal(self):
        self.assertTrue(ground_book() == ground_book())
        self.assertFalse(ground_book() != ground_book())
        turned = Book(ground(), {"col": 2, "num": 3}, {name: TABLES[name] for name in reversed(list(TABLES))})
        self.assertEqual(ground_book(), turned)

    def test_unequal(self):
        signature = Signature(["a", "b"], {"p": [("v", ("a",), "a")]})
        base = Book(signature, {"a": 2, "b": 2}, {"v": [0, 0]})
        others = (
            Book(signature, {"a": 2, "b": 3}, {"v": [0, 0]}),
            Book(signature, {"a": 2, "b": 2}, {"v": [0, 1]}),
            Book(Signature(["b", "a"], {"p": [("v", ("a",), "a")]}), {"a": 2, "b": 2}, {"v": [0, 0]}),
            Book(Signature(["a", "b"], {"q": [("v", ("a",), "a")]}), {"a": 2, "b": 2}, {"v": [0, 0]}),
        )
        for made in others:
            self.assertTrue(base != made)
            self.assertFalse(base == made)

    def test_unequal_to_everything_else(self):
        for thing in STRANGE + (ground(), SIZES):
            self.assertIs(ground_book() == thing, False)
            self.assertIs(thing == ground_book(), False)


if __name__ == "__main__":
    unittest.main()
