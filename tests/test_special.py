"""Makers that replace a row by what guesses more (S9.3); shapeguess/special.py."""

import itertools
import unittest

from pieces import Piece
from samples import NO, NONE, STRANGE, YES, num
from shapeguess.checking import check_version
from shapeguess.deciding import is_closed
from shapeguess.errors import BadShape, UnknownName
from shapeguess.quick import Version
from shapeguess.shapes import Shapes
from shapeguess.slow import slow
from shapeguess.special import (gone_on, specialized, with_above, with_global, with_grown, with_method, with_own,
                                with_variant)
from slowversion import parts_of, with_part
from versionsample import PROGRAM, sample

SHAPE, LAST, MIDDLE = ("n", ("a", "b")), (None, ("f", "m")), ("o", ("c",))
ONE = (("n", LAST),)
TWO = (("n", MIDDLE), ("o", LAST))
# For each maker: the words of the rows that it replaces, and arguments with which it can be called.
MAKERS = {
    with_own: (("get", "set"), (("n", ("f",)),)),
    with_grown: (("set",), (("n", ("e",)),)),
    with_above: (("get",), (SHAPE, ONE)),
    with_method: (("method",), (SHAPE, ONE, "f")),
    with_variant: (("prim",), ("addnum",)),
    with_global: (("global",), (YES,)),
    gone_on: (("link",), ()),
}


class MakerTest(unittest.TestCase):
    def made(self, piece, version, maker, number, *more):
        """The version that a maker makes: it is right, and the one that was passed stays as it is."""
        kept = parts_of(version)
        told = maker(piece.program, version, number, *more)
        self.assertIsInstance(told, Version)
        check_version(piece.program, told)
        self.assertEqual(parts_of(version), kept)
        self.assertEqual((told.function(), told.names(), told.points()),
                         (version.function(), version.names(), version.points()))
        return told

    def refused(self, piece, version, maker, number, *more):
        kept = parts_of(version)
        with self.assertRaises(BadShape):
            maker(piece.program, version, number, *more)
        self.assertEqual(parts_of(version), kept)


PIECE = Piece("fun main(a, b) {let c = a.f; show b; return c;} fun f(s, x) {return x;} fun g(x) {return x;}")
END = PIECE.end(0, 0)


def around(row, **more):
    """A version whose row 4 is this one; tests lead over it and to it, and the jump behind it leads further."""
    rows = [("const", 5, YES), ("test", 5, 6), ("test", 5, 4), row, ("jump", 7), ("const", 2, NONE),
            ("const", 2, NONE), ("stop", END)]
    return PIECE.version(rows, names=["n", "o"], **more)


class Replacing(MakerTest):
    """The rows around the new ones, for each maker."""

    ROWS = {
        with_own: ("get", 2, 0, "f", END), with_grown: ("set", 0, "f", 1, END), with_above: ("get", 2, 0, "f", END),
        with_variant: ("prim", 2, "add", (0, 1), END), with_global: ("global", 2, "g", END),
    }

    def test_jumps_and_tests_lead_to_the_same_rows(self):
        for maker, row in self.ROWS.items():
            version = around(row)
            self.assertEqual([row[-1] for row in version.rows() if row[0] in ("test", "jump")], [6, 4, 7])
            told = self.made(PIECE, version, maker, 4, *MAKERS[maker][1])
            more = len(told.rows()) - len(version.rows())
            rows = version.rows()
            self.assertEqual(told.rows()[:4], [rows[0], rows[1], ("test", 5, 6 + more), ("test", 5, 4)])
            self.assertEqual(told.rows()[5 + more:], [("jump", 7 + more)] + rows[6:])
            self.assertEqual(more, {with_above: 2, with_variant: 2, with_global: 0}.get(maker, 1))

    def test_registers_and_watched_facts(self):
        for maker, row in self.ROWS.items():
            version = around(row, watched=[("slot", "o", "h", YES)])
            told = self.made(PIECE, version, maker, 4, *MAKERS[maker][1])
            self.assertEqual(told.registers(), version.registers() + (maker == with_above))
            more = {with_above: [("holds", "n", LAST)], with_global: [("global", "g", YES)]}.get(maker, [])
            self.assertEqual(told.watched(), [("slot", "o", "h", YES)] + more)

    def test_rows_of_another_word(self):
        version = sample()
        for maker, (words, more) in MAKERS.items():
            fitting = 0
            for number, row in enumerate(version.rows()):
                if row[0] in words:
                    fitting += 1
                else:
                    with self.assertRaises(BadShape):
                        maker(PROGRAM, version, number, *more)
            self.assertGreater(fitting, 0)

    def test_numbers_that_are_no_rows(self):
        version = sample()
        for maker, (_, more) in MAKERS.items():
            for number in (None, True, False, -1, len(version.rows()), 10 ** 40, "0", [], {}, (0,), Shapes(), version):
                for bent in (more, tuple(None for _ in more)):
                    with self.assertRaises(UnknownName) as caught:
                        maker(PROGRAM, version, number, *bent)
                    self.assertIs(caught.exception.name, number)


class OwnAndGrown(MakerTest):
    def test_get(self):
        version = PIECE.version([("get", 2, 0, "f", END), ("link", 1, 1)], names=["n"], points=[(1, ())])
        for shape in (("n", ("f",)), (None, ("e", "f", "g"))):
            told = self.made(PIECE, version, with_own, 1, shape)
            self.assertEqual(told.rows()[1:4], [("check", ("shape", 0, shape), END), ("load", 2, 0, shape, "f"),
                                                ("link", 1, 1)])
            self.assertEqual((told.registers(), told.watched()), (version.registers(), []))
            self.assertTrue(is_closed(PIECE.program, told))
        for shape in (("n", ()), ("n", ("e",)), ("o", ("f",))):
            self.refused(PIECE, version, with_own, 1, shape)

    def test_set(self):
        piece = Piece("fun main(a, b) {a.f = b; return a;}")
        end = piece.end(0, 0)
        version = piece.version([("set", 0, "f", 1, end), ("link", 1, 1)], names=["n"], points=[(1, ())])
        for shape in (("n", ("f",)), (None, ("e", "f")), ("n", ()), (None, ("e",))):
            maker, other = (with_own, with_grown) if "f" in shape[1] else (with_grown, with_own)
            told = self.made(piece, version, maker, 1, shape)
            word = "store" if maker == with_own else "grow"
            self.assertEqual(told.rows()[1:4], [("check", ("shape", 0, shape), end), (word, 0, shape, "f", 1),
                                                ("link", 1, 1)])
            self.assertEqual((told.registers(), told.watched()), (version.registers(), []))
            self.assertTrue(is_closed(piece.program, told))
            self.refused(piece, version, other, 1, shape)
        self.refused(piece, version, with_grown, 1, ("o", ("e",)))

    def test_things_that_are_no_shapes(self):
        piece = Piece("fun main(a, b) {a.f = b; return a;}")
        version = piece.version([("set", 0, "f", 1, piece.end(0, 0)), ("link", 1, 1)], names=["n"], points=[(1, ())])
        for shape in STRANGE + (("n", ["f"]), ["n", ("f",)], ("n",), ("n", ("f",), ()), (0, ("f",)), ("n", "f"),
                                ("n", ("f", "f")),
                                ("n", ("f", 0)), ("n", (None, "f")), (("n",), ("f",)), Shapes(), version):
            self.refused(piece, version, with_own, 1, shape)
        for shape in STRANGE + (("n", ["e"]), ["n", ()], ("n",), ("n", (), ()), (0, ()), ("n", "e"), ("n", ("e", "e")),
                                ("n", (0,)),
                                (["n"], ()), Shapes(), version):
            self.refused(piece, version, with_grown, 1, shape)


class AboveAndMethods(MakerTest):
    def get(self, **more):
        return PIECE.version([("get", 2, 0, "f", END), ("link", 1, 1)], names=["n", "o", "p"], points=[(1, ())], **more)

    def test_chain_of_one(self):
        version = self.get()
        told = self.made(PIECE, version, with_above, 1, SHAPE, ONE)
        x = version.registers()
        self.assertEqual(told.rows()[1:5], [
            ("check", ("shape", 0, SHAPE), END), ("const", x, ("name", "n")), ("load", 2, x, LAST, "f"),
                                            ("link", 1, 1)])
        self.assertEqual((told.registers(), told.watched()), (x + 1, [("holds", "n", LAST)]))
        self.assertTrue(is_closed(PIECE.program, told))

    def test_chain_of_two(self):
        version = self.get()
        told = self.made(PIECE, version, with_above, 1, SHAPE, TWO)
        x = version.registers()
        self.assertEqual(told.rows()[1:5], [
            ("check", ("shape", 0, SHAPE), END), ("const", x, ("name", "o")), ("load", 2, x, LAST, "f"),
                                            ("link", 1, 1)])
        self.assertEqual((told.registers(), told.watched()), (x + 1, [("holds", "n", MIDDLE), ("holds", "o", LAST)]))
        self.assertTrue(is_closed(PIECE.program, told))

    def test_the_last_shape_may_have_a_root(self):
        told = self.made(PIECE, self.get(), with_above, 1, SHAPE, (("n", ("p", ("f",))),))
        self.assertEqual(told.watched(), [("holds", "n", ("p", ("f",)))])
        self.refused(PIECE, self.get(), with_above, 1, SHAPE, (("n", ("q", ("f",))),))

    def test_facts_that_are_there_already(self):
        first = [("holds", "o", LAST), ("global", "g", YES)]
        told = self.made(PIECE, self.get(watched=first), with_above, 1, SHAPE, TWO)
        self.assertEqual(told.watched(), first + [("holds", "n", MIDDLE)])
        told = self.made(PIECE, self.get(watched=[("holds", "n", LAST)]), with_above, 1, SHAPE, ONE)
        self.assertEqual(told.watched(), [("holds", "n", LAST)])

    def test_chains_that_lead_elsewhere(self):
        version = self.get()
        for shape, chain in (
            (SHAPE, (("o", LAST),)), ((None, ("a",)), ONE), (("o", ("a",)), ONE), (("n", ("f",)), ONE),
                             (SHAPE, (("n", (None, ("g",))),)),
            (SHAPE, (("n", MIDDLE),)), (SHAPE, (("n", MIDDLE), ("p", LAST))),
                             (SHAPE, (("n", ("o", ("f",))), ("o", LAST))),
            (SHAPE, (("n", (None, ("c",))), ("o", LAST))), (SHAPE, (("o", MIDDLE), ("o", LAST))), (SHAPE, ()),
            (("q", ("a",)), (("q", LAST),)), (SHAPE, (("n", MIDDLE), ("o", ("p", ("c",))), ("p", LAST))),
        ):
            self.refused(PIECE, version, with_above, 1, shape, chain)

    def test_bent_chains(self):
        version = self.get()
        for chain in STRANGE + ([("n", LAST)], (["n", LAST],), (("n", list(LAST)),), (("n",),), (("n", LAST, ()),),
                                ("n", LAST), (("n", None),),
                                ((0, LAST),), ((None, LAST),), (("n", (None, ["f"])),), ((("n",), LAST),), Shapes(),
                                {"n": LAST}):
            self.refused(PIECE, version, with_above, 1, SHAPE, chain)
            self.refused(PIECE, version, with_above, 1, SHAPE, (("n", MIDDLE), chain))
        for shape in STRANGE + (("n", ["a"]), ["n", ("a",)], ("n",), (("n",), ("a",)), Shapes()):
            self.refused(PIECE, version, with_above, 1, shape, ONE)

    def test_methods(self):
        piece = Piece("fun main(a, b) {let c = a.m(b); return c;} fun f(s, x) {return x;} fun g(x) {return x;}")
        end = piece.end(0, 0)
        version = piece.version([("method", 2, 0, "m", (1,), end, 1)], names=["n", "o"], points=[(1, ())])
        x = version.registers()
        for chain, name, facts in ((ONE, "n", [("holds", "n", LAST)]),
                                   (TWO, "o", [("holds", "n", MIDDLE), ("holds", "o", LAST)])):
            for function in ("f", "main", "g"):
                told = self.made(piece, version, with_method, 1, SHAPE, chain, function)
                self.assertEqual(told.rows()[1:4], [
                    ("check", ("shape", 0, SHAPE), end), ("const", x, ("fun", function)),
                                                    ("call", 2, x, (0, 1), end, 1)])
                self.assertEqual((told.registers(), told.watched()),
                                 (x + 1, facts + [("slot", name, "m", ("fun", function))]))
                self.assertTrue(is_closed(piece.program, told))
        told = [("slot", "n", "m", ("fun", "f")), ("holds", "n", LAST)]
        self.assertEqual(self.made(piece, with_part(version, watched=told), with_method, 1, SHAPE, ONE, "f").watched(),
                         told)
        for function in STRANGE + ("zz", "m", ("fun", "f"), ["f"], Shapes()):
            self.refused(piece, version, with_method, 1, SHAPE, ONE, function)
        for shape, chain in ((SHAPE, (("n", (None, ("f",))),)), (("n", ("m",)), ONE), (SHAPE, None), (None, ONE),
                             (SHAPE, (("o", LAST),)),
                             (SHAPE, [("n", LAST)]), (SHAPE, (("n", ("o", ("m",))), ("o", LAST)))):
            self.refused(piece, version, with_method, 1, shape, chain, "f")


class VariantsAndGlobals(MakerTest):
    def test_variants(self):
        piece = Piece("fun main(a, b) {let c = add(a, b); let c = neg(b); return c;}")
        end, later = piece.end(0, 0), piece.end(0, 1)
        version = piece.version([("prim", 2, "add", (0, 1), end), ("link", 1, 1)], points=[(1, ())])
        for variant, kinds in (("addnum", ("num", "num")), ("paint", ("num", "col"))):
            told = self.made(piece, version, with_variant, 1, variant)
            self.assertEqual(told.rows()[1:5], [("check", ("kind", 0, kinds[0]), end),
                                                ("check", ("kind", 1, kinds[1]), end),
                                                ("variant", 2, variant, (0, 1)), ("link", 1, 1)])
            self.assertTrue(is_closed(piece.program, told))
        for variant in STRANGE + ("add", "negnum", "lessnum", "zz", ("addnum",), ["addnum"], Shapes()):
            self.refused(piece, version, with_variant, 1, variant)
        version = piece.version([("prim", 2, "neg", (1,), later), ("link", 1, 1)], points=[(2, ())], at=1)
        told = self.made(piece, version, with_variant, 1, "negnum")
        self.assertEqual(told.rows()[1:4], [("check", ("kind", 1, "num"), later), ("variant", 2, "negnum", (1,)),
                                            ("link", 1, 1)])
        # The same register as both arguments, and variants with another number of them.
        version = piece.version([("prim", 2, "add", (1, 1), end), ("prim", 2, "add", (1,), end),
                                 ("prim", 2, "neg", (1, 1), end), ("prim", 2, "add", (), end),
                                 ("prim", 2, "idle", (1,), end), ("stop", end)])
        self.assertEqual(self.made(piece, version, with_variant, 1, "addnum").rows()[1:3],
                         [("check", ("kind", 1, "num"), end)] * 2)
        for number, variant in ((2, "addnum"), (3, "negnum"), (4, "addnum"), (5, "addnum")):
            self.refused(piece, version, with_variant, number, variant)

    def test_globals(self):
        piece = Piece("fun main(a) {let b = $g; return b;}")
        end = piece.end(0, 0)
        version = piece.version([("global", 1, "g", end), ("link", 1, 1)], names=["n"], points=[(1, ())])
        for mark in (NONE, YES, num(7), ("err", "e"), ("fun", "main"), ("fun", "zz"), ("name", "n")):
            told = self.made(piece, version, with_global, 1, mark)
            self.assertEqual(told.rows()[1:3], [("const", 1, mark), ("link", 1, 1)])
            self.assertEqual((told.registers(), told.watched()), (version.registers(), [("global", "g", mark)]))
            self.assertTrue(is_closed(piece.program, told))
        for mark in STRANGE + (("name", "o"), ("name",), ["name", "n"], ("obj", 0), ("tok", "red", 0),
                               ("tok", "num", -1), ("bit", "maybe"), list(YES),
                               ("fun", "Main"), ("none", "none"), Shapes()):
            self.refused(piece, version, with_global, 1, mark)

    def test_globals_told_already(self):
        piece = Piece("fun main(a) {let b = $g; let b = $g; return b;}")
        rows = [("global", 1, "g", piece.end(0, 0)), ("global", 1, "g", piece.end(1, 1)), ("link", 2, 1)]
        once = self.made(piece, piece.version(rows, points=[(2, ())]), with_global, 1, YES)
        self.assertEqual(self.made(piece, once, with_global, 2, YES).watched(), [("global", "g", YES)])
        # Two marks contradict each other, but this makes no version that is not right.
        self.assertEqual(self.made(piece, once, with_global, 2, NO).watched(),
                         [("global", "g", YES), ("global", "g", NO)])


class Breaking(MakerTest):
    """above, called, watched and gone on are not possible behind a row that may break a fact."""

    piece = Piece("fun main(a, b) {let c = $g; let c = a.f; let c = a.m(b); return c;} fun f(s, x) {return x;}")

    def version(self, ahead, row, watched=()):
        end = self.piece.end(0, 0)
        rows = [told if told[0] in ("put", "store", "grow", "const", "show", "jump", "test", "move", "load")
                else told + (end,) for told in ahead]
        if row[0] == "method":
            rows.append(row + (self.piece.end(0, 2), 1))
        else:
            rows += [row] if row[0] == "link" else [row + (end,), ("stop", end)]
        return self.piece.version(rows, names=["n", "o"], watched=watched, points=[(3, ())])

    def tried(self, possible, ahead, row, maker, *more, watched=()):
        version = self.version(ahead, row, watched)
        number = version.rows().index(("point", 1)) - (1 if row[0] in ("link", "method") else 2)
        self.assertEqual(version.row(number)[:len(row)], row)
        if possible:
            self.made(self.piece, version, maker, number, *more)
        else:
            self.refused(self.piece, version, maker, number, *more)

    def test_globals(self):
        row = ("global", 2, "g")
        for ahead, possible in ((("put", "g", 0), False), (("put", "h", 0), True), (("set", 0, "g", 1), True),
                                (("drop", 0, "g"), True),
                                (("show", 0), True), (("global", 3, "g"), True)):
            self.tried(possible, [ahead], row, with_global, YES)
            self.tried(possible, [ahead], row, with_global, YES, watched=[("global", "g", YES)])
        # Also through others, and only where a way leads on.
        self.tried(False, [("put", "g", 0), ("show", 0), ("const", 5, NONE)], row, with_global, YES)
        self.tried(False, [("const", 5, YES), ("test", 5, 4), ("put", "g", 0)], row, with_global, YES)
        self.tried(True, [("jump", 3), ("show", 0)], row, with_global, YES)
        # A row that no way reaches may still be followed by the replaced one.
        self.tried(False, [("jump", 3), ("put", "g", 0)], row, with_global, YES)
        self.tried(True, [("jump", 4), ("put", "g", 0), ("stop",)], row, with_global, YES)

    def test_rows_behind_do_not_count(self):
        end = self.piece.end(0, 0)
        version = self.piece.version([("global", 2, "g", end), ("put", "g", 0), ("stop", end)])
        self.made(self.piece, version, with_global, 1, YES)
        # Nor do rows of other pieces.
        rows = [("point", 0), ("put", "g", 0), ("stop", end), ("point", 1), ("global", 2, "g", end), ("stop", end)]
        version = Version("main", [], [], 8, rows, [(0, (), self.piece.places(0))] * 2)
        self.made(self.piece, version, with_global, 4, YES)

    def test_shapes_above(self):
        for ahead, possible in (
            (("set", 0, "z", 1), False), (("set", 0, "f", 1), True), (("set", 0, "m", 1), True),
                                (("set", 0, "c", 1), False),
            (("grow", 0, (None, ()), "z", 1), False), (("grow", 0, (None, ()), "f", 1), True),
                                (("grow", 0, (None, ()), "c", 1), False),
            (("store", 0, (None, ("z",)), "z", 1), True), (("store", 0, (None, ("f",)), "f", 1), True),
            (("drop", 0, "f"), False), (("drop", 0, "m"), False), (("drop", 0, "z"), True), (("drop", 0, "c"), True),
            (("put", "f", 0), True), (("get", 3, 0, "z"), True), (("load", 3, 0, (None, ("z",)), "z"), True),
        ):
            self.tried(possible, [ahead], ("get", 2, 0, "f"), with_above, SHAPE, ONE)
            self.tried(possible, [ahead], ("get", 2, 0, "f"), with_above, SHAPE, ONE, watched=[("holds", "n", LAST)])
        # With two shapes, each of which counts.
        for ahead, possible in ((("set", 0, "f", 1), False), (("set", 0, "c", 1), False), (("drop", 0, "c"), False),
                                (("drop", 0, "f"), False),
                                (("drop", 0, "z"), True), (("store", 0, (None, ("f",)), "f", 1), True)):
            self.tried(possible, [ahead], ("get", 2, 0, "f"), with_above, SHAPE, TWO)

    def test_methods(self):
        for ahead, possible in ((("set", 0, "m", 1), False), (("store", 0, (None, ("m",)), "m", 1), False),
                                (("grow", 0, (None, ()), "m", 1), False),
                                (("drop", 0, "m"), False), (("store", 0, (None, ("f",)), "f", 1), True),
                                (("set", 0, "f", 1), True), (("drop", 0, "z"), True),
                                (("put", "m", 1), True), (("set", 0, "z", 1), False)):
            self.tried(possible, [ahead], ("method", 2, 0, "m", (1,)), with_method, SHAPE, ONE, "f")

    def test_own_grown_and_variants_do_not_watch(self):
        for ahead in (("put", "g", 0), ("set", 0, "z", 1), ("drop", 0, "f")):
            watched = [("global", "g", YES), ("holds", "n", LAST), ("slot", "n", "f", NO)]
            self.tried(True, [ahead], ("get", 2, 0, "f"), with_own, ("n", ("f",)), watched=watched)
            self.tried(True, [ahead], ("set", 0, "f", 1), with_grown, ("n", ()), watched=watched)
            self.tried(True, [ahead], ("prim", 2, "add", (0, 1)), with_variant, "addnum", watched=watched)
            # A fact that the version had before, but that the maker does not add, does not matter either.
            self.tried(ahead[0] != "put", [ahead], ("global", 2, "g"), with_global, YES, watched=watched)
            self.tried(True, [ahead], ("global", 2, "h"), with_global, YES, watched=watched)

    def test_gone_on(self):
        for watched, breaking in ((("global", "g", YES), ("put", "g", 0)), (("slot", "n", "f", NO), ("set", 0, "f", 1)),
                                  (("holds", "n", (None, ("z",))), ("grow", 0, (None, ()), "f", 1)),
                                  (("slot", "o", "f", NO), ("drop", 0, "f"))):
            self.tried(False, [("const", 2, NONE), breaking], ("link", 3, 1), gone_on, watched=[watched])
            self.tried(True, [("const", 2, NONE), breaking], ("link", 3, 1), gone_on)
            self.tried(True, [("const", 2, NONE), breaking], ("link", 3, 1), gone_on, watched=[("global", "w", YES)])


class GoneOn(MakerTest):
    def test_counts(self):
        piece = Piece("fun main(a, b) {let c = a.f; let d = call &f(a, c); show d; return c;} fun f(s, x) {return x;}")
        told = slow(piece.program, "main")
        self.assertEqual([row[0] for row in told.rows()], ["point", "get", "link", "point", "const", "link", "point",
                                                           "call", "point", "show", "link",
                                                           "point", "return", "point", "const", "link", "point",
                                                           "return"])
        one = self.made(piece, told, gone_on, 2)
        self.assertEqual(one.rows()[:5], [("point", 0), told.row(1), told.row(4), ("link", 2, 2), ("point", 1)])
        two = self.made(piece, one, gone_on, 3)
        call = told.row(7)
        self.assertEqual(two.row(3), call[:4] + ((2, call[4][1]), call[5]))
        self.assertEqual(two.rows()[4:], one.rows()[4:])
        number = two.rows().index(("link", 1, 4))
        self.assertEqual(self.made(piece, two, gone_on, number).row(number), ("return", 1, told.row(12)[2]))
        for version in (one, two):
            self.assertTrue(is_closed(piece.program, version))

    def test_ends(self):
        piece = Piece("fun main(a) {let b = a.f; let b = b.g; return b;}")
        version = slow(piece.program, "main")
        told = self.made(piece, version, gone_on, 2)
        get = version.row(4)
        self.assertEqual(told.rows()[:4], [("point", 0), version.row(1), get[:4] + ((1, get[4][1]),), ("link", 2, 2)])
        # A link that counts more steps, and one that leads to a piece with a link that does.
        again = self.made(piece, self.made(piece, version, gone_on, 5), gone_on, 2)
        self.assertEqual(again.rows()[:4], [("point", 0), version.row(1), get[:4] + ((1, get[4][1]),),
                                            ("return", 2, 1)])

    def test_tests_and_jumps_lead_to_the_copies(self):
        piece = Piece("fun main(a) {show a; if a {show a;} return a;}")
        version = slow(piece.program, "main")
        self.assertEqual(version.rows()[3:8], [("point", 1), ("check", ("kind", 0, "bit"), piece.end(0, 1)),
                                               ("test", 0, 7), ("link", 1, 2), ("link", 1, 3)])
        told = self.made(piece, version, gone_on, 2)
        self.assertEqual(told.rows()[:7], [("point", 0), ("show", 0), ("check", ("kind", 0, "bit"), piece.end(1, 1)),
                                           ("test", 0, 5), ("link", 2, 2),
                                           ("link", 2, 3), ("point", 1)])
        # What was led to behind the link has other numbers now.
        self.assertEqual(told.rows()[6:11], [("point", 1), version.row(4), ("test", 0, 10), ("link", 1, 2),
                                             ("link", 1, 3)])
        self.assertTrue(is_closed(piece.program, told))
        both = self.made(piece, self.made(piece, told, gone_on, 5), gone_on, 4)
        self.assertEqual(both.rows()[3:7], [("test", 0, 6), ("show", 0), ("link", 3, 3), ("return", 2, 0)])
        self.assertTrue(is_closed(piece.program, both))

    def test_a_piece_that_begins_with_a_jump_back(self):
        piece = Piece("fun main(a) {show a; show a; return a;}")
        places = piece.places(0)
        rows = [("point", 1), ("jump", 4), ("point", 0), ("jump", 6), ("show", 0), ("return", 1, 0), ("show", 0),
                ("link", 1, 1)]
        version = Version("main", [], [], 4, rows, [(0, (), places), (1, (), places)])
        check_version(piece.program, version)
        told = self.made(piece, version, gone_on, 7)
        # The row behind the point row, the jump, is the least one of its piece: no jump comes first.
        self.assertEqual(told.rows(), rows[:7] + [("jump", 8), ("show", 0), ("return", 2, 0)])
        rows = [("point", 0), ("show", 0), ("link", 1, 1), ("show", 0), ("return", 1, 0), ("point", 1), ("jump", 3)]
        version = Version("main", [], [], 4, rows, [(0, (), places), (1, (), places)])
        check_version(piece.program, version)
        told = self.made(piece, version, gone_on, 2)
        self.assertEqual(told.rows(), [("point", 0), ("show", 0), ("jump", 5), ("show", 0), ("return", 2, 0),
                                       ("jump", 3), ("show", 0), ("return", 1, 0),
                                       ("point", 1), ("jump", 6)])
        for one in (version, told):
            self.assertTrue(is_closed(piece.program, one))

    def test_a_link_to_its_own_point(self):
        piece = Piece("fun main(a) {while a {show a;} return a;}")
        check = ("check", ("kind", 0, "bit"), piece.end(0, 0))
        version = piece.version([check, ("test", 0, 5), ("show", 0), ("link", 3, 0), ("return", 1, 0)])
        told = self.made(piece, version, gone_on, 4)
        more = ("check", ("kind", 0, "bit"), piece.end(3, 0))
        self.assertEqual(told.rows()[:4], [("point", 0), check, ("test", 0, 9), ("show", 0)])
        self.assertEqual(told.rows()[4:], [more, ("test", 0, 8), ("show", 0), ("link", 6, 0), ("return", 4, 0),
                                           ("return", 1, 0)])
        again = self.made(piece, told, gone_on, 7)
        self.assertIn(("link", 12, 0), again.rows())
        for one in (version, told, again):
            self.assertTrue(is_closed(piece.program, one))


class Specialized(MakerTest):
    piece = Piece("fun main(a, b) {let c = a.f; a.f = b; b.g = c; let c = b.f; return c;}")

    def version(self):
        end = [self.piece.end(at, at) for at in range(5)]
        rows = [("get", 2, 0, "f", end[0]), ("set", 0, "f", 1, end[1]), ("set", 1, "g", 2, end[2]),
                ("get", 2, 1, "f", end[3]), ("return", 4, 2)]
        return self.piece.version(rows, names=["n", "o"])

    NAMES = {5: "n", 7: "o"}
    OWN = (1, ((5, ("f",)), ("own", 0)))
    STORE = (2, ((5, ("e", "f")), ("own", 1)))
    GROW = (3, ((None, ()), ("grow", (None, ("g",)), 0)))
    UP = (4, ((7, ()), ("up", ((7, (5, ("h",))), (5, (None, ("f",)))), 0)))

    def test_each_entry(self):
        version = self.version()
        for pair, expected in (
            (self.OWN, with_own(self.piece.program, version, 1, ("n", ("f",)))),
            (self.STORE, with_own(self.piece.program, version, 2, ("n", ("e", "f")))),
            (self.GROW, with_grown(self.piece.program, version, 3, (None, ()))),
        ):
            self.assertEqual(specialized(self.piece.program, version, [pair], self.NAMES), expected)
        self.refused(self.piece, version, lambda p, v, n: specialized(p, v, [self.UP], self.NAMES), 4)
        plain = with_part(version, rows=[("point", 0)] + version.rows()[4:])
        up = (1,) + self.UP[1:]
        chain = (("o", ("n", ("h",))), ("n", (None, ("f",))))
        self.assertEqual(specialized(self.piece.program, plain, [up], self.NAMES),
                         with_above(self.piece.program, plain, 1, ("o", ()), chain))

    def test_every_sequence(self):
        version, pairs = self.version(), (self.OWN, self.STORE, self.GROW)
        expected = with_own(self.piece.program, with_own(self.piece.program,
                                                         with_grown(self.piece.program, version, 3, (None, ())), 2,
                                                         ("n", ("e", "f"))), 1, ("n", ("f",)))
        for cells in itertools.permutations(pairs):
            for told in (cells, list(cells)):
                kept = list(told)
                self.assertEqual(specialized(self.piece.program, version, told, self.NAMES), expected)
                self.assertEqual(list(told), kept)
        self.assertEqual(specialized(self.piece.program, version, [], {}), version)
        self.assertTrue(is_closed(self.piece.program, with_part(expected, points=version.points())))

    def test_equal_numbers(self):
        # The first of the list replaces the row, so that the second one finds a check.
        for second in (self.OWN, (1, ((None, ("f",)), ("own", 0)))):
            with self.assertRaises(BadShape):
                specialized(self.piece.program, self.version(), [self.OWN, second], self.NAMES)

    def test_errors_in_turn(self):
        version, program = self.version(), self.piece.program
        for number in (-1, 6, 99, 10 ** 40):
            with self.assertRaises(UnknownName) as caught:
                specialized(program, version, [(number,) + self.OWN[1:]], self.NAMES)
            self.assertEqual(caught.exception.name, number)
        for number in (0, 5):
            with self.assertRaises(BadShape):
                specialized(program, version, [(number,) + self.OWN[1:]], self.NAMES)
        # An object without a name comes ahead of a number that is no row, within one pair; greater numbers come first.
        with self.assertRaises(BadShape):
            specialized(program, version, [(99,) + self.OWN[1:]], {})
        nameless = (50, ((8, ("f",)), ("own", 0)))
        with self.assertRaises(UnknownName):
            specialized(program, version, [nameless, (99,) + self.OWN[1:]], self.NAMES)
        with self.assertRaises(BadShape):
            specialized(program, version, [(99, nameless[1]), (50,) + self.OWN[1:]], self.NAMES)
        with self.assertRaises(UnknownName):
            specialized(program, version, [(-1,) + self.OWN[1:], self.OWN], self.NAMES)

    def test_objects_without_names(self):
        for names in ({}, {5: "n"}, {7: "o"}):
            with self.assertRaises(BadShape):
                specialized(self.piece.program, with_part(self.version(),
                                                          rows=[("point", 0)] + self.version().rows()[4:]),
                            [(1,) + self.UP[1:]], names)
        last = (1, ((7, ()), ("up", ((7, (5, ("f",))),), 0)))
        plain = with_part(self.version(), rows=[("point", 0)] + self.version().rows()[4:])
        with self.assertRaises(BadShape):
            specialized(self.piece.program, plain, [last], {7: "o"})
        self.assertEqual(specialized(self.piece.program, plain, [last], self.NAMES).watched(),
                         [("holds", "o", ("n", ("f",)))])
        for pair in (self.OWN, self.STORE):
            with self.assertRaises(BadShape):
                specialized(self.piece.program, self.version(), [pair], {7: "o"})
        self.assertEqual(len(specialized(self.piece.program, self.version(), [self.GROW], {}).rows()), 7)

    def test_names_that_the_version_lacks(self):
        with self.assertRaises(BadShape):
            specialized(self.piece.program, self.version(), [self.OWN], {5: "z"})


if __name__ == "__main__":
    unittest.main()
