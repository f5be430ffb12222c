"""The errors (interface, shapeguess/errors.py)."""

import unittest

from shapeguess import errors

GUESS = {
    "BadPaper": (), "BadShape": (), "BadChoice": (), "MixedPrograms": (), "BadName": ("name",),
    "TwiceTold": ("name",), "BadVariant": ("name",), "BadBook": ("name",), "BadState": ("word",),
    "BadTree": ("path",), "BadText": ("place",), "BadVersion": ("place",), "StuckRow": ("number",),
    "TooLong": ("limit",),
}
MISSING = {"UnknownName": ("name",), "NoFunction": ("name",), "NoVersion": ("number",), "NotThere": ("number",)}
ANYTHING = (
    "word", "x" * 5000, "", 0, -3, 10 ** 40, 10 ** 5000, True, None, (), [], {}, ("row", 3), [1, [2]], {"a": {}},
    "\ud800",
)


def deep_tuple():
    deep = ()
    for _ in range(5000):
        deep = (deep,)
    return deep


class Bases(unittest.TestCase):
    def test_bases(self):
        self.assertTrue(issubclass(errors.GuessError, ValueError))
        self.assertFalse(issubclass(errors.GuessError, LookupError))
        self.assertTrue(issubclass(errors.NameMissing, LookupError))
        self.assertFalse(issubclass(errors.NameMissing, ValueError))
        self.assertFalse(issubclass(errors.NameMissing, errors.GuessError))

    def test_direct_subclasses(self):
        for words, base in ((GUESS, errors.GuessError), (MISSING, errors.NameMissing)):
            for word in words:
                self.assertEqual(getattr(errors, word).__bases__, (base,), word)

    def test_no_class_is_above_another(self):
        words = list(GUESS) + list(MISSING)
        for word in words:
            for other in words:
                made = issubclass(getattr(errors, word), getattr(errors, other))
                self.assertEqual(made, word == other, (word, other))


class Arguments(unittest.TestCase):
    def test_attributes(self):
        for words in (GUESS, MISSING):
            for word, names in words.items():
                if names and word != "BadTree":
                    for anything in ANYTHING:
                        error = getattr(errors, word)(anything)
                        self.assertIs(getattr(error, names[0]), anything, word)
                        self.assertIsInstance(str(error), str)

    def test_without_arguments(self):
        for word, names in GUESS.items():
            if not names:
                self.assertIsInstance(str(getattr(errors, word)()), str)

    def test_deep_argument(self):
        deep = deep_tuple()
        self.assertIs(errors.UnknownName(deep).name, deep)

    def test_path_is_kept_as_a_tuple(self):
        for path in ([], (), [0, 2, 1], (0, 2, 1), [None, "a", []]):
            error = errors.BadTree(path)
            self.assertIsInstance(error.path, tuple)
            self.assertEqual(error.path, tuple(path))
        path = [1, 2]
        error = errors.BadTree(path)
        path.append(3)
        self.assertEqual(error.path, (1, 2))

    def test_messages_name_what_is_short(self):
        for words in (GUESS, MISSING):
            for word, names in words.items():
                error = getattr(errors, word)
                if not names:
                    self.assertTrue(str(error()))
                elif word == "BadTree":
                    self.assertIn("2, 0, 'x'", str(error((2, 0, "x"))))
                elif word != "BadVersion":
                    self.assertIn("'gone'", str(error("gone")))
                    self.assertIn("999999", str(error(999999)))
                    self.assertIn("-999999", str(error(-999999)))
                    self.assertLess(len(str(error("x" * 41))), 80)
                    self.assertIn("x" * 40, str(error("x" * 40)))

    def test_raised_and_caught(self):
        with self.assertRaises(ValueError):
            raise errors.BadText(3)
        with self.assertRaises(LookupError):
            raise errors.NoFunction("f")


if __name__ == "__main__":
    unittest.main()
