"""Signatures (S2.2); shapeguess/signatures.py."""

import unittest

from samples import STRANGE, WORD_OF_12, WORD_OF_13, ground, ground_book
from shapeguess.errors import BadName, BadVariant, TwiceTold, UnknownName
from shapeguess.signatures import Signature, variant_for


class Errors(unittest.TestCase):
    def refused(self, error, name, kinds, primitives):
        with self.assertRaises(error) as caught:
            Signature(kinds, primitives)
        self.assertIs(type(caught.exception), error)
        self.assertEqual(caught.exception.name, name)

    def test_kinds_that_are_no_words(self):
        for kind in ("", "A", "1", "a b", WORD_OF_13, "none", "bit", "err", "fun", "obj"):
            self.refused(BadName, kind, ["num", kind, ""], {})

    def test_kinds_told_twice(self):
        self.refused(TwiceTold, "b", ["a", "b", "b", "a"], {})
        self.refused(TwiceTold, "a", ["a", "b", "a", "b"], {})

    def test_wrong_kinds_come_before_kinds_told_twice(self):
        self.refused(BadName, "bit", ["a", "a", "bit"], {})

    def test_kinds_come_before_primitives(self):
        self.refused(TwiceTold, "a", ["a", "a"], {"P": []})

    def test_names_of_primitives(self):
        for name in ("", "P", "p q", WORD_OF_13):
            self.refused(BadName, name, ["a"], {"p": [], name: [("V", (), "x")], "": []})

    def test_names_of_variants(self):
        self.refused(BadName, "V", ["a"], {"p": [("v", ("a",), "a"), ("V", (), "x")]})
        self.refused(BadName, WORD_OF_13, ["a"], {"p": [(WORD_OF_13, 1, "x")]})

    def test_variants_told_twice(self):
        self.refused(TwiceTold, "v", ["a"], {"p": [("v", ("a",), "a"), ("v", ("a", "a"), "a")]})
        self.refused(TwiceTold, "v", ["a"], {"p": [("v", ("a",), "a")], "q": [("v", (), "x")]})

    def test_kinds_of_variants(self):
        wrong = (
            (), ("a", "a", "a"), ["a"], ["a", "a"], "a", "aa", None, 1, True, {}, {"a": 1}, ("x",), ("a", "x"), (1,),
            (None,), (["a"],), (("a",),), ("bit",), ("none",), ("a", "bit"), ({},), ("",), ("p",),
        )
        for kinds in wrong:
            self.refused(BadVariant, "v", ["a"], {"p": [("v", kinds, "a")]})

    def test_results_of_variants(self):
        for result in ("x", "none", "err", "fun", "obj", "", "yes", "A"):
            self.refused(BadVariant, "v", ["a"], {"p": [("v", ("a",), result)]})

    def test_kinds_of_an_earlier_variant(self):
        rows = [("v", ("a", "b"), "a"), ("w", ("b", "a"), "a"), ("u", ("a", "b"), "b")]
        self.refused(BadVariant, "u", ["a", "b"], {"p": rows})
        Signature(["a", "b"], {"p": rows[:2], "q": rows[2:]})

    def test_primitive_by_primitive(self):
        self.refused(BadVariant, "v", ["a"], {"p": [("v", (), "a")], "P": []})
        self.refused(BadName, "P", ["a"], {"P": [], "p": [("v", (), "a")]})

    def test_variant_by_variant(self):
        self.refused(BadVariant, "v", ["a"], {"p": [("v", (), "a"), ("W", ("a",), "a")]})


class Parts(unittest.TestCase):
    def test_parts(self):
        signature = ground()
        self.assertEqual(signature.kinds(), ["num", "col"])
        self.assertEqual(signature.primitives(), ["add", "neg", "less", "idle"])
        self.assertEqual(
            signature.variants("add"), [("addnum", ("num", "num"), "num"), ("paint", ("num", "col"), "col")]
        )
        self.assertEqual(signature.variants("idle"), [])
        self.assertEqual(signature.variant("paint"), ("add", ("num", "col"), "col"))
        self.assertEqual(signature.variant("lessnum"), ("less", ("num", "num"), "bit"))

    def test_any_words_are_names(self):
        words = [WORD_OF_12, "let", "tok", "yes"]
        primitives = {"none": [("bit", ("let",), "bit")], "if": [("fun", ("yes", "tok"), "let")]}
        signature = Signature(words, primitives)
        self.assertEqual(signature.variant("bit"), ("none", ("let",), "bit"))
        self.assertEqual(signature.variant("fun"), ("if", ("yes", "tok"), "let"))

    def test_empty(self):
        signature = Signature([], {})
        self.assertEqual((signature.kinds(), signature.primitives()), ([], []))

    def test_unknown(self):
        signature = ground()
        for thing in STRANGE + ("addnum", "num", "bit"):
            with self.assertRaises(UnknownName) as caught:
                signature.variants(thing)
            self.assertEqual(caught.exception.name, thing)
        for thing in STRANGE + ("add", "idle", "num"):
            with self.assertRaises(UnknownName) as caught:
                signature.variant(thing)
            self.assertEqual(caught.exception.name, thing)

    def test_has_kind(self):
        signature = ground()
        for thing in STRANGE + ("bit", "none", "add", "addnum", signature):
            self.assertIs(signature.has_kind(thing), False)
        self.assertIs(signature.has_kind("num"), True)
        self.assertIs(signature.has_kind("col"), True)

    def test_nothing_is_kept_and_what_is_told_is_new(self):
        kinds = ["a"]
        rows = [("v", ("a",), "a")]
        primitives = {"p": rows}
        signature = Signature(kinds, primitives)
        kinds.append("b")
        rows.append(("w", ("a", "a"), "a"))
        primitives["q"] = []
        signature.kinds().append("c")
        signature.primitives().append("r")
        signature.variants("p").clear()
        self.assertEqual(signature, Signature(["a"], {"p": [("v", ("a",), "a")]}))
        self.assertEqual(signature.kinds(), ["a"])
        self.assertEqual(signature.primitives(), ["p"])
        self.assertEqual(signature.variants("p"), [("v", ("a",), "a")])
        self.assertFalse(signature.has_kind("b"))

    def test_nothing_passed_is_modified(self):
        kinds = ["a"]
        primitives = {"p": [("v", ("a",), "a")]}
        Signature(kinds, primitives)
        self.assertEqual((kinds, primitives), (["a"], {"p": [("v", ("a",), "a")]}))

    def test_tuples_for_lists(self):
        self.assertEqual(
            Signature(("a",), {"p": (("v", ("a",), "a"),)}), Signature(["a"], {"p": [("v", ("a",), "a")]})
        )


class Equality(unittest.TestCase):
    def test_equal(self):
        self.assertTrue(ground() == ground())
        self.assertFalse(ground() != ground())

    def test_unequal_parts(self):
        row = ("v", ("a",), "a")
        base = Signature(["a", "b"], {"p": [row], "q": []})
        others = (
            Signature(["b", "a"], {"p": [row], "q": []}),
            Signature(["a"], {"p": [row], "q": []}),
            Signature(["a", "b"], {"q": [], "p": [row]}),
            Signature(["a", "b"], {"p": [row]}),
            Signature(["a", "b"], {"p": [], "q": [row]}),
            Signature(["a", "b"], {"p": [("w", ("a",), "a")], "q": []}),
            Signature(["a", "b"], {"p": [("v", ("b",), "a")], "q": []}),
            Signature(["a", "b"], {"p": [("v", ("a",), "b")], "q": []}),
            Signature(["a", "b"], {"p": [row, ("w", ("b",), "a")], "q": []}),
        )
        for other in others:
            self.assertTrue(base != other)
            self.assertFalse(base == other)

    def test_order_of_variants_counts(self):
        rows = [("v", ("a",), "a"), ("w", ("a", "a"), "a")]
        self.assertNotEqual(Signature(["a"], {"p": rows}), Signature(["a"], {"p": rows[::-1]}))

    def test_unequal_to_everything_else(self):
        for thing in STRANGE + (["num", "col"], ground_book()):
            self.assertIs(ground() == thing, False)
            self.assertIs(thing == ground(), False)


class VariantFor(unittest.TestCase):
    def test_variant_for(self):
        signature = ground()
        self.assertEqual(variant_for(signature, "add", ("num", "num")), "addnum")
        self.assertEqual(variant_for(signature, "add", ("num", "col")), "paint")
        self.assertEqual(variant_for(signature, "neg", ("num",)), "negnum")
        nothing = (
            ("col", "num"), ("num",), (), ("num", "num", "num"), (1, 2), (None, None), ("num", []), ("num", ["num"]),
            ("bit", "bit"), ("num", True), ({}, {}),
        )
        for kinds in nothing:
            self.assertIsNone(variant_for(signature, "add", kinds), kinds)
        self.assertIsNone(variant_for(signature, "idle", ("num",)))

    def test_unknown(self):
        for thing in STRANGE + ("addnum", "num"):
            with self.assertRaises(UnknownName) as caught:
                variant_for(ground(), thing, ("num", "num"))
            self.assertEqual(caught.exception.name, thing)


if __name__ == "__main__":
    unittest.main()
