"""Words and values (S2.1, [0.3]); shapeguess/values.py."""

import unittest

from samples import NONE, NO, STRANGE, WORD_OF_12, WORD_OF_13, YES, num, program_of
from shapeguess.values import is_value, is_word, kind_of


class Words(unittest.TestCase):
    def test_words(self):
        for word in ("a", "z", "a0", "z9", "let", "none", "tok", "x1y2z3", WORD_OF_12, "a23456789012"):
            self.assertIs(is_word(word), True, word)

    def test_no_words(self):
        for word in (WORD_OF_13, "", "0", "9a", "A", "aB", "a-b", "a b", " a", "a ", "a\n", "\u00e4", "a\u0660",
                     "\uff41", "a.b", "_a", "a_", b"a"):
            self.assertIs(is_word(word), False, word)

    def test_anything(self):
        for thing in STRANGE:
            self.assertIs(is_word(thing), False, thing)
        self.assertIs(is_word(program_of("")), False)


class Values(unittest.TestCase):
    def test_values_and_kinds(self):
        rows = (
            (NONE, "none"), (YES, "bit"), (NO, "bit"), (num(0), "num"), (num(10 ** 40), "num"),
            (("tok", "tok", 3), "tok"), (("tok", "let", 3), "let"), (("tok", WORD_OF_12, 3), WORD_OF_12),
            (("err", "field"), "err"), (("err", "none"), "err"), (("fun", "f"), "fun"), (("fun", "fun"), "fun"),
            (("obj", 0), "obj"), (("obj", 10 ** 40), "obj"),
        )
        for value, kind in rows:
            self.assertIs(is_value(value), True, value)
            self.assertEqual(kind_of(value), kind)

    def test_reserved_kinds(self):
        for kind in ("none", "bit", "err", "fun", "obj"):
            self.assertIs(is_value(("tok", kind, 0)), False, kind)

    def test_no_values(self):
        wrong = (
            "none", ("none", 0), ("none", None), ["none"], (["none"],), ("bit",), ("bit", True), ("bit", "Yes"),
            ("bit", "yes", "no"), ["bit", "yes"], ("bit", ("yes",)), ("tok", "num"), ("tok", "num", -1),
            ("tok", "num", True), ("tok", "num", False), ("tok", "num", "0"), ("tok", "num", None),
            ("tok", "num", 0, 0), ("tik", "num", 0), (None, "num", 0), ("bit", "num", 0),
            ("tok", "Num", 0), ("tok", ["num"], 0), ("tok", 1, 0), ["tok", "num", 0],
            ("tok", WORD_OF_13, 0), ("err",), ("err", "A"), ("err", 0), ("err", "a", "b"), ["err", "a"],
            ("err", WORD_OF_13), ("fun",), ("fun", ""), ("fun", None), ("fun", ["f"]), ["fun", "f"], ("obj",),
            ("obj", -1), ("obj", True), ("obj", None), ("obj", "0"), ("obj", 0, 0), ["obj", 0], ("num", 0),
            (0, 0), ((), ()), ([], 0), ({}, 0), ("no",), ("yes",), (None,), ("none",) * 2, ("obj", [0]),
        )
        for value in wrong:
            self.assertIs(is_value(value), False, value)

    def test_anything(self):
        for thing in STRANGE:
            self.assertIs(is_value(thing), False, thing)
        program = program_of("")
        for thing in (program, (program,), (program, 0), ("tok", program, 0), ("err", program), ("obj", program)):
            self.assertIs(is_value(thing), False)


if __name__ == "__main__":
    unittest.main()
