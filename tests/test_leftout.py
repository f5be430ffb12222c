"""Checks that are left out (S9.4); shapeguess/leftout.py."""

import unittest

from drawnversions import VersionMaker
from pieces import Piece
from samples import NO, NONE, YES, num
from shapeguess.checking import check_version
from shapeguess.deciding import goes_back, is_closed
from shapeguess.errors import UnknownName
from shapeguess.leftout import can_go_back, left_out
from shapeguess.points import entered
from shapeguess.quick import WITH_END, Version, end_of, piece
from shapeguess.quickrun import quick_run
from shapeguess.rebuilding import held_of
from shapeguess.shapes import Shapes
from shapeguess.slow import slow
from shapeguess.special import gone_on, with_own, with_variant
from shapeguess.starts import judge_start
from slowversion import parts_of, with_part

PIECE = Piece("fun main(a, b) {show a; show b; return a;}")
END = PIECE.end(0, 0)
NUMBER, OTHER, SAME = (("check", fact, END) for fact in (("kind", 0, "num"), ("kind", 1, "num"), ("same", 0, 1)))


class LeftOutTest(unittest.TestCase):
    def left(self, expected, rows, program=PIECE, **more):
        version = program.version(rows, **more)
        kept = parts_of(version)
        told = left_out(program.program, version)
        self.assertIsInstance(told, Version)
        check_version(program.program, told)
        self.assertEqual(told.rows()[1:1 + len(expected)], expected)
        self.assertEqual(told, with_part(version, rows=told.rows()))
        self.assertEqual(parts_of(version), kept)
        self.assertEqual(left_out(program.program, told), told)
        return told


class LeavingOut(LeftOutTest):
    def test_checks_that_stay(self):
        rows = [NUMBER, OTHER, SAME, ("stop", END)]
        self.left(rows, rows)
        self.left([("stop", END)], [("stop", END)])

    def test_checks_that_facts_tell(self):
        stop = ("stop", END)
        for facts, expected in (([("kind", 0, "num")], [OTHER, SAME, stop]),
                                ([("is", 1, num(3))], [NUMBER, SAME, stop]),
                                ([("same", 1, 0)], [NUMBER, stop]), ([("same", 1, 0), ("kind", 1, "num")], [stop]),
                                ([("kind", 0, "obj")], [NUMBER, stop]),
                                ([("unlike", 0, 1)], [NUMBER, OTHER, SAME, stop])):
            self.left(expected, [NUMBER, OTHER, SAME, stop], facts=facts)

    def test_checks_that_earlier_ones_tell(self):
        stop = ("stop", END)
        self.left([NUMBER, stop], [NUMBER, NUMBER, NUMBER, stop])
        self.left([NUMBER, SAME, stop], [NUMBER, SAME, OTHER, stop])
        self.left([NUMBER, OTHER, SAME, stop], [NUMBER, OTHER, SAME, stop])

    def test_checks_that_other_rows_tell(self):
        stop = ("stop", END)
        for ahead, fact in ((("const", 4, num(1)), ("kind", 4, "num")), (("same", 4, 0, 1), ("kind", 4, "bit")),
                            (("move", 4, 0), ("same", 0, 4)),
                            (("prim", 4, "add", (0, 1), END), ("kind", 0, "num")),
                            (("get", 4, 0, "f", END), ("kind", 0, "obj")),
                            (("new", 4, 0, END), ("unlike", 4, 1)), (("prim", 4, "less", (0, 1), END),
                                                                     ("kind", 4, "bit"))):
            self.left([ahead, stop], [ahead, ("check", fact, END), stop])
        shape = ("n", ("f",))
        check = ("check", ("shape", 0, shape), END)
        self.left([check, ("load", 4, 0, shape, "f"), stop], [check, ("load", 4, 0, shape, "f"), check, stop],
                  names=["n"])
        # A field that is set between the two makes it another shape.
        rows = [check, ("set", 0, "g", 1, END), check, stop]
        self.left(rows, rows, names=["n"])
        self.left([check, ("set", 0, "f", 1, END), stop], [check, ("set", 0, "f", 1, END), check, stop], names=["n"])

    def test_watched_facts(self):
        get = ("global", 4, "g", END)
        check = ("check", ("is", 4, YES), END)
        self.left([get, ("stop", END)], [get, check, ("stop", END)], watched=[("global", "g", YES)])
        self.left([get, check], [get, check, ("stop", END)], watched=[("global", "g", NO)])
        self.left([get, check], [get, check, ("stop", END)], watched=[("global", "h", YES)])

    def test_jumps_and_tests_lead_to_the_row_behind(self):
        rows = [("const", 4, YES), ("test", 4, 5), ("jump", 5), ("stop", END), NUMBER, ("test", 4, 8), ("jump", 9),
                ("show", 0), ("stop", END)]
        told = self.left([("const", 4, YES), ("test", 4, 5), ("jump", 5), ("stop", END), ("test", 4, 7), ("jump", 8),
                          ("show", 0), ("stop", END)],
                         rows, facts=[("kind", 0, "num")])
        self.assertEqual(len(told.rows()), 9)
        # Several that follow each other, and jumps that lead to them and over them.
        rows = [("const", 4, YES), ("test", 4, 5), NUMBER, NUMBER, NUMBER, ("jump", 7), ("stop", END)]
        self.left([("const", 4, YES), ("test", 4, 3), ("jump", 4), ("stop", END)], rows, facts=[("kind", 0, "num")])

    def test_checks_of_no_piece(self):
        rows = [("point", 0), ("stop", END), NUMBER, ("check", ("is", 0, NONE), END), ("jump", 6), ("show", 0), SAME,
                ("stop", END)]
        version = Version("main", [], [], 6, rows, [(0, (), PIECE.places(0))])
        told = left_out(PIECE.program, version)
        self.assertEqual(told.rows(), rows[:2] + [("jump", 4), ("show", 0), ("stop", END)])
        self.assertEqual([can_go_back(PIECE.program, version, number) for number in (2, 3, 6, 7)], [None] * 4)

    def test_checks_to_which_no_way_of_the_piece_leads(self):
        rows = [("const", 4, YES), ("test", 4, 4), ("jump", 5), NUMBER, ("stop", END)]
        self.left([("const", 4, YES), ("test", 4, 4), ("jump", 4), ("stop", END)], rows)
        rows[0] = ("const", 4, NO)
        self.left(rows, rows)

    def test_several_pieces(self):
        rows = [("point", 0), NUMBER, ("show", 0), ("link", 1, 1), ("point", 1),
                ("check", ("kind", 0, "num"), PIECE.end(0, 1)), ("show", 1),
                ("link", 1, 2), ("point", 2), ("return", 0, 0)]
        points = [(0, (), PIECE.places(0)), (1, (("kind", 0, "num"),), PIECE.places(1)), (2, (), PIECE.places(2))]
        version = Version("main", [], [], 6, rows, points)
        told = left_out(PIECE.program, version)
        self.assertEqual(told.rows(), rows[:5] + rows[6:])
        self.assertTrue(is_closed(PIECE.program, version) and is_closed(PIECE.program, told))

    def test_only_checks_are_left_out(self):
        # A set that never goes back stays.
        rows = [("check", ("kind", 0, "obj"), END), ("set", 0, "f", 1, END), ("get", 4, 0, "f", END), ("stop", END)]
        self.left(rows, rows)

    def test_what_makers_made(self):
        piece_of = Piece("fun main(a, b) {let c = add(a, b); let c = add(c, b); let c = a.f; let d = a.f; return d;}")
        version = slow(piece_of.program, "main")
        version = with_variant(piece_of.program, with_variant(piece_of.program, version, 4, "addnum"), 1, "addnum")
        version = gone_on(piece_of.program, version, version.rows().index(("link", 1, 1)))
        told = left_out(piece_of.program, version)
        self.assertEqual([row[1] for row in version.rows()[:8] if row[0] == "check"],
                         [("kind", 0, "num"), ("kind", 1, "num"), ("kind", 2, "num"), ("kind", 1, "num")])
        self.assertEqual([row[0] for row in told.rows()[:7]], ["point", "check", "check", "variant", "variant", "link",
                                                               "point"])
        shape = (None, ("f",))
        at = [number for number, row in enumerate(told.rows()) if row[0] == "get"]
        told = with_own(piece_of.program, with_own(piece_of.program, told, at[1], shape), at[0], shape)
        told = gone_on(piece_of.program, told, told.rows().index(("link", 1, 3)))
        checks = [row for row in told.rows() if row[0] == "check"]
        # One of the copies is left out; the piece of the second get alone keeps its own.
        self.assertEqual(len([row for row in left_out(piece_of.program, told).rows() if row[0] == "check"]),
                         len(checks) - 1)
        self.assertTrue(is_closed(piece_of.program, left_out(piece_of.program, told)))


class CanGoBack(unittest.TestCase):
    def test_starts_that_are_told(self):
        rows = [("point", 1), NUMBER, ("stop", END), ("point", 0), SAME, NUMBER, ("stop", END)]
        points = [(0, (), PIECE.places(0)), (0, (("is", 0, num(1)),), PIECE.places(0))]
        version = Version("main", [], [], 6, rows, points)
        for number, k in ((1, None), (2, 1), (4, 0), (5, 0), (6, 0)):
            told = can_go_back(PIECE.program, version, number)
            if k is None:
                self.assertIsNone(told)
            else:
                self.assertEqual(told[0], k)
                self.shown(PIECE.program, version, number, told)

    def shown(self, program, version, number, told):
        k, book, state, objects = told
        self.assertIsInstance(told, tuple)
        self.assertNotEqual(judge_start(program, version, k, book, state, objects), "fit")
        run = quick_run(program, book, version, objects, k, entered(state, version, objects, k), held_of(state))
        self.assertEqual(run[:2], ("back", number))

    def test_each_word(self):
        piece_of = Piece("fun main(a, b) {let c = call a(b); let c = a.m(b); return c;} fun f(x) {return x;}")
        end = piece_of.end(0, 0)
        for row in (("check", ("kind", 0, "num"), end), ("global", 2, "g", end), ("get", 2, 0, "f", end),
                    ("set", 0, "f", 1, end),
                    ("drop", 0, "f", end), ("new", 2, 0, end), ("prim", 2, "add", (0, 1), end), ("stop", end)):
            version = piece_of.version([row, ("stop", end)])
            self.shown(piece_of.program, version, 1, can_go_back(piece_of.program, version, 1))

    def test_numbers_of_other_rows(self):
        piece_of = Piece("fun main(a, b) {let c = call a(b); let c = a.m(b); return c;} fun f(x) {return x;}")
        version = slow(piece_of.program, "main")
        others = [number for number, row in enumerate(version.rows()) if row[0] not in WITH_END]
        self.assertTrue({"point", "call", "method", "return", "const",
                         "link"} <= {version.row(number)[0] for number in others})
        for number in others + [None, True, -1, len(version.rows()), 10 ** 40, "0", [], {}, (1,), Shapes(), version]:
            with self.assertRaises(UnknownName) as caught:
                can_go_back(piece_of.program, version, number)
            self.assertIs(caught.exception.name, number)


class Drawn(unittest.TestCase):
    def test_drawn_versions(self):
        left = 0
        for seed in range(20):
            maker = VersionMaker(seed)
            program = maker.program()
            version = maker.sound(program, 45)
            told = left_out(program, version)
            check_version(program, told)
            self.assertTrue(is_closed(program, told))
            self.assertEqual([row[0] for row in told.rows() if row[0] != "check"],
                             [row[0] for row in version.rows() if row[0] != "check"])
            left += len(version.rows()) - len(told.rows())
            for k in range(len(told.points())):
                for number in piece(told, k):
                    if told.row(number)[0] == "check":
                        self.assertIsNotNone(goes_back(program, told, k, number))
            self.assertTrue(all(end_of(row) is not None for row in told.rows() if row[0] == "check"))
        self.assertGreater(left, 20)


if __name__ == "__main__":
    unittest.main()
