"""Tables of shapes (S4.1, S4.2); shapeguess/shapes.py."""

import random
import unittest

from samples import STRANGE, WORD_OF_12, WORD_OF_13
from shapeguess.errors import BadShape, NotThere
from shapeguess.shapes import Shapes

NO_NUMBERS = (None, True, False, -1, 3, 10 ** 40, "", "0", "a", (), (0,), [], [0], {}, {0: 1}, Shapes())


def table():
    shapes = Shapes()
    for root, names in ((None, ()), (4, ("b", "a")), (None, ("a", "b", "c"))):
        shapes.number_of(root, names)
    return shapes


class ShapesTest(unittest.TestCase):
    def bad(self, call, *arguments):
        with self.assertRaises(BadShape):
            call(*arguments)

    def missing(self, number, call, *arguments):
        with self.assertRaises(NotThere) as caught:
            call(*arguments)
        self.assertTrue(caught.exception.number is number or caught.exception.number == number)


class Numbers(ShapesTest):
    def test_a_table_without_shapes(self):
        shapes = Shapes()
        self.assertEqual(len(shapes), 0)
        for number in (0, -1, True):
            self.missing(number, shapes.shape, number)

    def test_shapes_get_numbers_as_they_are_asked_for(self):
        shapes = Shapes()
        asked = [(None, ()), (0, ()), (None, ("a",)), (0, ("a",)), (1, ("a",)), (0, ("a", "b")), (0, ("b", "a")),
                 (10 ** 40, ()), (None, (WORD_OF_12, "a1"))]
        for number, (root, names) in enumerate(asked):
            self.assertEqual(len(shapes), number)
            self.assertEqual(shapes.number_of(root, names), number)
        for number, (root, names) in enumerate(asked):
            self.assertEqual(shapes.number_of(root, names), number)
            self.assertEqual(shapes.shape(number), (root, names))
        self.assertEqual(len(shapes), len(asked))

    def test_roots_that_are_none(self):
        shapes = table()
        for root in (True, False, -1, "", "a", (), [], {}, (0,), [0], ("obj", 0), Shapes()):
            self.bad(shapes.number_of, root, ("a",))
            self.bad(shapes.number_of, root, ())
        self.assertEqual(shapes, table())

    def test_names_that_are_none(self):
        shapes = table()
        for names in (None, True, 0, "ab", "", [], ["a"], {}, {"a": 1}, ("a", "a"), ("a", "b", "a"), ("A",), ("",),
                      (WORD_OF_13,), ("a", None), (1,), (True,), (("a",),), (["a"],), ({},), ("a b",), ("1a",)):
            self.bad(shapes.number_of, None, names)
            self.bad(shapes.number_of, 0, names)
        self.assertEqual(shapes, table())

    def test_true_is_not_one(self):
        shapes = Shapes()
        shapes.number_of(1, ())
        self.bad(shapes.number_of, True, ())
        shapes.number_of(0, ())
        self.bad(shapes.number_of, False, ())


class Slots(ShapesTest):
    def test_slot(self):
        shapes = table()
        for number, f, slot in ((0, "a", None), (1, "b", 0), (1, "a", 1), (1, "c", None), (2, "a", 0), (2, "b", 1),
                                (2, "c", 2), (2, "d", None)):
            self.assertEqual(shapes.slot(number, f), slot)
        for f in STRANGE + (("a", "b", "c"), ["a"], Shapes(), "ab"):
            self.assertIsNone(shapes.slot(2, f))
        self.assertEqual(shapes, table())

    def test_with_name(self):
        shapes = table()
        self.assertEqual(shapes.with_name(0, "a"), 3)
        self.assertEqual(shapes.shape(3), (None, ("a",)))
        self.assertEqual(shapes.with_name(1, "c"), 4)
        self.assertEqual(shapes.shape(4), (4, ("b", "a", "c")))
        self.assertEqual(shapes.with_name(0, "a"), 3)
        self.assertEqual(shapes.with_name(3, "b"), 5)
        self.assertEqual(shapes.with_name(5, "c"), 2)
        self.assertEqual(len(shapes), 6)

    def test_without_name(self):
        shapes = table()
        self.assertEqual(shapes.without_name(1, "b"), 3)
        self.assertEqual(shapes.shape(3), (4, ("a",)))
        self.assertEqual(shapes.without_name(2, "b"), 4)
        self.assertEqual(shapes.shape(4), (None, ("a", "c")))
        self.assertEqual([shapes.slot(4, f) for f in "abc"], [0, None, 1])
        self.assertEqual(shapes.without_name(4, "a"), 5)
        self.assertEqual(shapes.without_name(5, "c"), 0)
        self.assertEqual(shapes.without_name(1, "b"), 3)
        self.assertEqual(len(shapes), 6)

    def test_names_that_cannot_be_put_or_dropped(self):
        shapes = table()
        for f in STRANGE + ("a", "b", ("z",), ["z"], Shapes()):
            self.bad(shapes.with_name, 1, f)
        for f in STRANGE + ("c", WORD_OF_12, ("b",), ["b"], Shapes()):
            self.bad(shapes.without_name, 1, f)
        self.assertEqual(shapes, table())

    def test_not_there_comes_first(self):
        shapes = table()
        for number in NO_NUMBERS:
            self.missing(number, shapes.shape, number)
            for f in ("a", "z", None, [], "A"):
                self.missing(number, shapes.slot, number, f)
                self.missing(number, shapes.with_name, number, f)
                self.missing(number, shapes.without_name, number, f)
        self.assertEqual(shapes, table())

    def test_against_plain_tuples(self):
        drawn = random.Random(5)
        shapes = Shapes()
        known = []
        for _ in range(800):
            word = drawn.choice(("number", "with", "without"))
            root, names = drawn.choice(known) if known else (None, ())
            f = drawn.choice("abcd")
            if word == "number":
                pair = (drawn.choice((None, 0, 1)), tuple(drawn.sample("abcd", drawn.randint(0, 2))))
                number = shapes.number_of(*pair)
            elif word == "with":
                pair = (root, names + (f,))
                number = None if f in names or not known else shapes.with_name(known.index((root, names)), f)
            else:
                pair = (root, tuple(name for name in names if name != f))
                number = shapes.without_name(known.index((root, names)), f) if f in names else None
            if number is not None:
                if pair not in known:
                    known.append(pair)
                self.assertEqual(number, known.index(pair))
        self.assertEqual([shapes.shape(number) for number in range(len(shapes))], known)


class Twins(ShapesTest):
    def test_a_twin_goes_its_own_way(self):
        shapes = table()
        twin = shapes.twin()
        self.assertIsInstance(twin, Shapes)
        self.assertEqual(twin, shapes)
        self.assertEqual([twin.shape(number) for number in range(3)], [shapes.shape(number) for number in range(3)])
        twin.number_of(7, ())
        self.assertEqual((len(twin), len(shapes)), (4, 3))
        self.assertNotEqual(twin, shapes)
        self.assertEqual(shapes.number_of(8, ()), 3)
        self.assertEqual(twin.number_of(8, ()), 4)
        self.assertEqual(twin.number_of(4, ("b", "a")), 1)

    def test_equality(self):
        self.assertTrue(Shapes() == Shapes())
        self.assertTrue(table() == table())
        self.assertFalse(table() == Shapes())
        other = Shapes()
        for root, names in ((4, ("b", "a")), (None, ()), (None, ("a", "b", "c"))):
            other.number_of(root, names)
        self.assertFalse(other == table())
        for thing in STRANGE + ([(None, ()), (4, ("b", "a")), (None, ("a", "b", "c"))], 3):
            self.assertFalse(table() == thing)
            self.assertTrue(table() != thing)



if __name__ == "__main__":
    unittest.main()
