"""Versions, ends of rows, the rows that may follow, and pieces (S7.1 to S7.5); shapeguess/quick.py."""

import unittest

from samples import NONE, STRANGE, program_of
from shapeguess.errors import UnknownName
from shapeguess.quick import Version, end_of, piece, steps_of, steps_told
from shapeguess.shapes import Shapes
from slowversion import parts_of, slow_version, with_part

END = (3, (("main", 0, ()),))
FACT = ("kind", 0, "num")
SHAPE = (None, ("f",))
# One row of each form, with its end and the n that it tells.
ROWS = (
    (("const", 0, NONE), None, None), (("move", 0, 1), None, None), (("same", 0, 1, 2), None, None),
    (("put", "g", 0), None, None), (("show", 0), None, None), (("point", 0), None, None),
    (("load", 0, 1, SHAPE, "f"), None, None), (("store", 0, SHAPE, "f", 1), None, None),
    (("grow", 0, SHAPE, "g", 1), None, None), (("variant", 0, "negnum", (1,)), None, None), (("jump", 7), None, None),
    (("test", 0, 7), None, None), (("check", FACT, END), END, 3), (("global", 0, "g", END), END, 3),
    (("get", 0, 1, "f", END), END, 3), (("set", 0, "f", 1, END), END, 3), (("drop", 0, "f", END), END, 3),
    (("new", 0, 1, END), END, 3), (("prim", 0, "neg", (1,), END), END, 3), (("stop", END), END, 3),
    (("link", 5, 0), None, 5), (("return", 6, 0), None, 6), (("call", 0, 1, (), END, 0), END, 3),
    (("method", 0, 1, "m", (), END, 0), END, 3),
)
NO_NUMBERS = (None, True, False, -1, 24, 10 ** 40, "", "0", "a", (), (0,), [], [0], {}, {0: 1}, Shapes())


def version_of(*rows, points=1):
    return Version("main", [], [], 3, list(rows), [(0, (), ())] * points)


def full():
    return Version("main", ["a", "b"], [("global", "g", NONE)], 9, [row for row, _, _ in ROWS],
                   [(0, (), ()), (1, (FACT,), ((0, ("reg", 0)),))])


class QuickTest(unittest.TestCase):
    def unknown(self, thing, call, *arguments):
        with self.assertRaises(UnknownName) as caught:
            call(*arguments)
        self.assertIs(caught.exception.name, thing)


class Versions(QuickTest):
    def test_parts(self):
        version = full()
        self.assertEqual(version.function(), "main")
        self.assertEqual(version.names(), ["a", "b"])
        self.assertEqual(version.watched(), [("global", "g", NONE)])
        self.assertEqual(version.registers(), 9)
        self.assertEqual(version.rows(), [row for row, _, _ in ROWS])
        self.assertEqual(version.points(), [(0, (), ()), (1, (FACT,), ((0, ("reg", 0)),))])

    def test_rows_and_points_by_number(self):
        version = full()
        self.assertEqual([version.row(number) for number in range(24)], version.rows())
        self.assertEqual([version.point(number) for number in range(2)], version.points())
        for number in NO_NUMBERS:
            self.unknown(number, version.row, number)
        for number in NO_NUMBERS + (2, 23):
            self.unknown(number, version.point, number)
        self.unknown(0, Version("main", [], [], 0, [], []).row, 0)
        self.unknown(0, Version("main", [], [], 0, [], []).point, 0)

    def test_lists_that_the_caller_changes(self):
        lists = [["a", "b"], [("global", "g", NONE)], [("point", 0)], [(0, (), ())]]
        version = Version("main", lists[0], lists[1], 1, lists[2], lists[3])
        again = Version("main", list(lists[0]), list(lists[1]), 1, list(lists[2]), list(lists[3]))
        for part in lists:
            part.clear()
        self.assertEqual(version, again)
        for told in (version.names(), version.watched(), version.rows(), version.points()):
            self.assertIsInstance(told, list)
            told.append(1)
        self.assertEqual(version, again)
        self.assertEqual(version.names(), ["a", "b"])

    def test_tuples_in_the_place_of_lists(self):
        version = Version("main", ("a", "b"), (("global", "g", NONE),), 9, tuple(full().rows()), tuple(full().points()))
        self.assertEqual(version, full())
        for told in (version.names(), version.watched(), version.rows(), version.points()):
            self.assertIsInstance(told, list)

    def test_parts_that_may_be_anything(self):
        for thing in STRANGE:
            if not isinstance(thing, (list, tuple)):
                version = Version(thing, thing, thing, thing, thing, thing)
                self.assertTrue(all(part is thing for part in parts_of(version)))
                self.unknown(0, version.row, 0)
                self.unknown(0, version.point, 0)

    def test_equality(self):
        self.assertTrue(full() == full())
        others = dict(function="f", names=["b", "a"], watched=[], registers=8, rows=full().rows()[:-1],
                      points=full().points()[::-1])
        for word, part in others.items():
            self.assertFalse(full() == with_part(full(), **{word: part}), word)
            self.assertTrue(full() != with_part(full(), **{word: part}), word)
        for thing in STRANGE + (Shapes(), parts_of(full()), tuple(parts_of(full())), "main"):
            self.assertFalse(full() == thing)


class Rows(QuickTest):
    def test_ends(self):
        for row, end, _ in ROWS:
            self.assertEqual(end_of(row), end, row)

    def test_steps_told(self):
        version = full()
        for number, (row, _, told) in enumerate(ROWS):
            self.assertEqual(steps_told(version, number), told, row)
        self.assertEqual(steps_told(version_of(("return", 0, 0)), 0), 0)
        self.assertEqual(steps_told(version_of(("stop", (0, END[1]))), 0), 0)

    def test_rows_that_may_follow(self):
        version = full()
        for number, (row, _, _) in enumerate(ROWS):
            told = steps_of(version, number)
            if row[0] == "jump":
                self.assertEqual(told, [7])
            elif row[0] == "test":
                self.assertEqual(told, [number + 1, 7])
            elif row[0] in ("stop", "link", "return", "call", "method"):
                self.assertEqual(told, [])
            else:
                self.assertEqual(told, [number + 1])
        # For a test always two; and whether or not the rows exist.
        self.assertEqual(steps_of(version_of(("test", 0, 1), ("show", 0)), 0), [1, 1])
        self.assertEqual(steps_of(version_of(("test", 0, 0)), 0), [1, 0])
        self.assertEqual(steps_of(version_of(("jump", 99)), 0), [99])
        self.assertEqual(steps_of(version_of(("show", 0)), 0), [1])

    def test_what_is_told_is_new(self):
        version = version_of(("point", 0), ("test", 0, 2), ("stop", END))
        steps_of(version, 1).clear()
        piece(version, 0).clear()
        self.assertEqual((steps_of(version, 1), piece(version, 0)), ([2, 2], [1, 2]))

    def test_numbers_of_no_row(self):
        version = full()
        for number in NO_NUMBERS:
            self.unknown(number, steps_of, version, number)
            self.unknown(number, steps_told, version, number)


class Pieces(QuickTest):
    def test_one_way(self):
        version = version_of(("point", 0), ("show", 0), ("show", 0), ("link", 1, 0), ("show", 0))
        self.assertEqual(piece(version, 0), [1, 2, 3])
        for last in (("stop", END), ("return", 0, 0), ("call", 0, 0, (), END, 0), ("method", 0, 0, "m", (), END, 0)):
            self.assertEqual(piece(version_of(("point", 0), last, ("show", 0)), 0), [1])

    def test_tests_and_jumps(self):
        version = version_of(("point", 0), ("test", 0, 5), ("show", 0), ("jump", 7), ("show", 0), ("test", 0, 6),
                             ("stop", END), ("return", 0, 0), ("show", 0))
        self.assertEqual(piece(version, 0), [1, 2, 3, 5, 6, 7])

    def test_jumps_back(self):
        # To an earlier row of the same piece, and over other rows to rows ahead of the point.
        version = version_of(("point", 0), ("jump", 3), ("return", 0, 0), ("show", 0), ("jump", 2))
        self.assertEqual(piece(version, 0), [1, 2, 3, 4])
        version = version_of(("point", 0), ("return", 0, 0), ("show", 0), ("jump", 1), ("point", 1), ("jump", 2), points=2)
        self.assertEqual(piece(version, 0), [1])
        self.assertEqual(piece(version, 1), [1, 2, 3, 5])
        # A row that follows itself, also the row of the point.
        version = version_of(("point", 0), ("show", 0), ("test", 0, 1), ("jump", 0))
        self.assertEqual(piece(version, 0), [0, 1, 2, 3])

    def test_two_points(self):
        version = version_of(("point", 1), ("show", 0), ("link", 1, 0), ("point", 0), ("return", 0, 0), points=2)
        self.assertEqual(piece(version, 1), [1, 2])
        self.assertEqual(piece(version, 0), [4])

    def test_numbers_of_no_point(self):
        version = version_of(("point", 0), ("stop", END), ("point", 1), ("stop", END), points=2)
        for k in NO_NUMBERS + (2, 3):
            self.unknown(k, piece, version, k)

    def test_pieces_of_a_slow_version(self):
        program = program_of("fun main(a, b) {while a {show b; let a = b == a; a.f = b;} return call a(b);}")
        version = slow_version(program, "main")
        covered = [number for k in range(len(version.points())) for number in piece(version, k)]
        points = [number for number, row in enumerate(version.rows()) if row[0] == "point"]
        self.assertEqual(sorted(covered + points), list(range(len(version.rows()))))


if __name__ == "__main__":
    unittest.main()
