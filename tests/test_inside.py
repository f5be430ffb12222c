"""Functions put inside of others (S9.5); shapeguess/inside.py."""

import unittest

from pieces import Piece, val
from samples import NO, NONE, YES, num
from shapeguess.checking import check_version
from shapeguess.deciding import is_closed
from shapeguess.errors import BadShape, UnknownName
from shapeguess.inside import put_inside
from shapeguess.quick import Version
from shapeguess.shapes import Shapes
from shapeguess.slow import slow
from shapeguess.special import gone_on, with_method, with_variant
from slowversion import parts_of, with_part

TEXT = ("fun main(a, b) {let c = call a(b, b); show b; return c;} fun f(x, y) {show x; return y;} fun one(x) {return x;} "
        "fun two(x, y) {let z = x.g; show y; return z;} fun bad(x, y) {throw x;}")
MAIN = Piece(TEXT)
END = MAIN.end(2, 0)


def version_with_call(points=((1, ()),), end=END):
    """Six quick registers; register 5 is not that of a plain one."""
    rows = [("move", 5, 1), ("call", 2, 0, (5, 1), end, 1)]
    return MAIN.version(rows, points=points, more=3)


class InsideTest(unittest.TestCase):
    def inside(self, inner, version=None, number=2, piece=MAIN):
        version = version or version_with_call()
        kept = parts_of(version), parts_of(inner)
        told = put_inside(piece.program, version, number, inner)
        self.assertIsInstance(told, Version)
        check_version(piece.program, told)
        self.assertEqual((parts_of(version), parts_of(inner)), kept)
        self.assertEqual(told.registers(), version.registers() + inner.registers())
        self.assertEqual((told.function(), told.names(), told.watched(), told.points()),
                         (version.function(), version.names(), version.watched(), version.points()))
        return told

    def refused(self, inner, version=None, number=2, piece=MAIN):
        with self.assertRaises(BadShape):
            put_inside(piece.program, version or version_with_call(), number, inner)


class Rows(InsideTest):
    def test_by_hand(self):
        f = Piece(TEXT, "f")
        inner = f.version([("show", 0), ("return", 1, 1)], more=0)
        version = version_with_call()
        base = version.registers()
        told = self.inside(inner, version)
        self.assertEqual(told.rows(), [
            ("point", 0), ("move", 5, 1),
            ("check", ("is", 0, ("fun", "f")), END),
            ("move", base, 5), ("move", base + 1, 1),
            ("show", base), ("move", 2, base + 1), ("link", 2 + 1 + 2, 1),
            ("point", 1), ("stop", MAIN.end(0, 1)),
        ])

    def test_ends(self):
        two = Piece(TEXT, "two")
        inner = two.version([("get", 2, 0, "g", two.end(0, 0)), ("show", 1), ("stop", two.end(2, 2))], more=0)
        version = version_with_call()
        base = version.registers()
        told = self.inside(inner, version)
        # main waits at its call with register 1 alone: 0 is not needed any more.
        waiting = ("main", 0, ((1, ("reg", 1)),))
        self.assertEqual(told.rows()[5:8], [
            ("get", base + 2, base, "g", (3, (waiting, ("two", 0, ((0, ("reg", base)), (1, ("reg", base + 1))))))),
            ("show", base + 1),
            ("stop", (5, (waiting, ("two", 2, ((2, ("reg", base + 2)),))))),
        ])

    def test_ends_of_several_frames(self):
        piece = Piece("fun main(a) {let b = call &f(a); return b;} fun f(x) {let y = call &g(x); return y;} fun g(x) {return x.h;}")
        g = slow(piece.program, "g")
        g = gone_on(piece.program, g, 2)
        f = slow(piece.program, "f")
        f = gone_on(piece.program, f, 2)
        f = put_inside(piece.program, f, 2, g)
        f = gone_on(piece.program, f, [at for at, row in enumerate(f.rows()) if row[0] == "link"][0])
        self.assertEqual([row[0] for row in f.rows()[:7]], ["point", "const", "check", "move", "get", "move", "return"])
        main = gone_on(piece.program, slow(piece.program, "main"), 2)
        told = self.inside(f, main, 2, piece)
        get = [row for row in told.rows() if row[0] == "get"][0]
        self.assertEqual([frame[:2] for frame in get[-1][1]], [("main", 1), ("f", 1), ("g", 0)])
        self.assertEqual(get[-1][0], 1 + 1 + 1 + 1)
        self.assertTrue(is_closed(piece.program, told))

    def test_places_that_are_values(self):
        f = Piece(TEXT, "f")
        points = [(0, (), ((0, val(num(3))), (1, ("reg", 4))))]
        rows = [("point", 0), ("const", 0, num(3)), ("show", 0), ("return", 1, 4)]
        inner = Version("f", [], [], 5, rows, points)
        check_version(MAIN.program, inner)
        version = version_with_call()
        base = version.registers()
        told = self.inside(inner, version)
        self.assertEqual(told.rows()[2:6], [("check", ("is", 0, ("fun", "f")), END), ("check", ("is", 5, num(3)), END),
                                            ("move", base + 4, 1),
                                            ("const", base, num(3))])

    def test_other_live_registers(self):
        """A local that may be read before it is written is live at row 0; its register is none there."""
        text = "fun main(a) {let b = call &f(a); return b;} fun f(x) {while x {let z = x; let x = #num:1;} return z;}"
        piece, f = Piece(text), Piece(text, "f")
        self.assertEqual([r for r, _ in f.places(0)], [0, 1])
        main = gone_on(piece.program, slow(piece.program, "main"), 2)
        base = main.registers()
        for place, ahead, made in ((("reg", 1), [], [("const", base + 1, NONE)]), (val(NONE), [("const", 1, NONE)], []),
                                   (val(YES), [("const", 1, NONE)], None)):
            places = ((0, ("reg", 0)), (1, place))
            end = (0, (("f", 0, places),))
            rows = [("point", 0), ("check", ("kind", 0, "bit"), end), ("test", 0, 4),
                    ("stop", end)] + ahead + [("return", 1, 1)]
            inner = Version("f", [], [], 2, rows, [(0, (), places)])
            check_version(piece.program, inner)
            if made is None:
                self.refused(inner, main, 2, piece)
            else:
                told = self.inside(inner, main, 2, piece)
                self.assertEqual(told.rows()[3:4 + len(made)], [("move", base, main.row(2)[3][0])] + made)
                self.assertTrue(is_closed(piece.program, told))

    def test_every_form_of_a_row_is_moved(self):
        f = Piece(TEXT, "f")
        end = f.end(0, 0)
        shape, less = (None, ("p", "q")), (None, ("p",))
        rows = [
            ("const", 2, num(1)), ("move", 2, 0), ("same", 2, 0, 1), ("put", "g", 1), ("show", 1),
                ("load", 2, 0, shape, "p"), ("store", 0, shape, "q", 1),
            ("grow", 0, less, "q", 1), ("variant", 2, "addnum", (0, 1)), ("check", ("kind", 1, "num"), end),
                ("check", ("is", 1, YES), end),
            ("check", ("shape", 1, shape), end), ("check", ("same", 0, 1), end), ("check", ("unlike", 1, 0), end),
                ("global", 2, "g", end),
            ("get", 2, 0, "f", end), ("set", 0, "f", 1, end), ("drop", 1, "f", end), ("new", 2, 0, end),
                ("prim", 2, "add", (0, 1), end),
            ("prim", 2, "add", (), end), ("return", 0, 2),
        ]
        inner = f.version(rows, more=0)
        version = version_with_call()
        b = version.registers()
        waiting = ("main", 0, ((1, ("reg", 1)),))
        e = (3, (waiting, ("f", 0, ((0, ("reg", b)), (1, ("reg", b + 1))))))
        x, y, z = b, b + 1, b + 2
        self.assertEqual(self.inside(inner, version).rows()[5:-2], [
            ("const", z, num(1)), ("move", z, x), ("same", z, x, y), ("put", "g", y), ("show", y),
                                                                    ("load", z, x, shape, "p"),
                                                                    ("store", x, shape, "q", y),
            ("grow", x, less, "q", y), ("variant", z, "addnum", (x, y)), ("check", ("kind", y, "num"), e),
                                                                    ("check", ("is", y, YES), e),
            ("check", ("shape", y, shape), e), ("check", ("same", x, y), e), ("check", ("unlike", y, x), e),
                                                                    ("global", z, "g", e),
            ("get", z, x, "f", e), ("set", x, "f", y, e), ("drop", y, "f", e), ("new", z, x, e),
                                                                    ("prim", z, "add", (x, y), e),
            ("prim", z, "add", (), e), ("move", 2, z), ("link", 4, 1),
        ])

    def test_jumps_and_tests(self):
        f = Piece(TEXT, "f")
        rows = [("point", 0), ("const", 2, YES), ("test", 2, 5), ("show", 0), ("return", 1, 1), ("jump", 7),
                ("return", 2, 0), ("return", 3, 1)]
        inner = Version("f", [], [], 3, rows, [(0, (), f.places(0))])
        version = version_with_call()
        b = version.registers()
        told = self.inside(inner, version).rows()
        # Each return takes two rows, so that what stands behind one is led to by other numbers; row 6 belongs to no piece.
        self.assertEqual(told[5:13], [("const", b + 2, YES), ("test", b + 2, 10), ("show", b), ("move", 2, b + 1),
                                      ("link", 5, 1), ("jump", 11),
                                      ("move", 2, b + 1), ("link", 7, 1)])
        self.assertEqual(told[13:], version.rows()[3:])

    def test_a_piece_that_begins_with_a_jump_back(self):
        f = Piece(TEXT, "f")
        rows = [("point", 1), ("stop", f.end(0, 0)), ("show", 0), ("return", 1, 1), ("point", 0), ("jump", 2)]
        inner = Version("f", [], [], 2, rows, [(0, (), f.places(0))] * 2)
        check_version(MAIN.program, inner)
        version = version_with_call()
        b = version.registers()
        told = self.inside(inner, version).rows()
        self.assertEqual(told[5:10], [("jump", 9), ("show", b), ("move", 2, b + 1), ("link", 5, 1), ("jump", 6)])

    def test_rows_around(self):
        f = Piece(TEXT, "f")
        inner = f.version([("show", 0), ("return", 1, 1)], more=0)
        rows = [("const", 4, YES), ("test", 4, 4), ("test", 4, 5), ("call", 2, 0, (1, 1), END, 1), ("stop", END),
                ("jump", 5)]
        version = MAIN.version(rows, points=[(1, ())])
        told = self.inside(inner, version, 4).rows()
        self.assertEqual(told[:4], [("point", 0), ("const", 4, YES), ("test", 4, 4), ("test", 4, 10)])
        self.assertEqual(told[10:12], [("stop", END), ("jump", 10)])

    def test_closed_versions(self):
        version = version_with_call(end=MAIN.end(0, 0))
        for name in ("f", "two", "bad"):
            inner = slow(MAIN.program, name)
            for _ in range(3):
                links = [at for at in range(len(inner.rows())) if inner.row(at)[0] == "link"
                         and at < inner.rows().index(("point", 1))]
                if links:
                    inner = gone_on(MAIN.program, inner, links[0])
            self.assertTrue(is_closed(MAIN.program, self.inside(inner, version)))

    def test_a_method_that_is_called(self):
        piece = Piece("fun main(a, b) {let c = a.m(b); return c;} fun f(s, x) {let z = add(x, x); return z;}")
        version = with_part(slow(piece.program, "main"), names=["n"])
        version = with_method(piece.program, version, 1, ("n", ()), (("n", (None, ("m",))),), "f")
        inner = gone_on(piece.program, with_variant(piece.program, slow(piece.program, "f"), 1, "addnum"), 4)
        told = self.inside(inner, version, 3, piece)
        self.assertTrue(is_closed(piece.program, told))
        self.assertEqual(told.row(4), ("move", version.registers() + 1, 1))


class Refused(InsideTest):
    def good(self):
        return Piece(TEXT, "f").version([("show", 0), ("return", 1, 1)], more=0)

    def test_numbers(self):
        version = version_with_call()
        for number in (None, True, False, -1, len(version.rows()), 10 ** 40, "2", [], {}, (2,), Shapes(), version):
            for inner in (self.good(), slow(MAIN.program, "one")):
                with self.assertRaises(UnknownName) as caught:
                    put_inside(MAIN.program, version, number, inner)
                self.assertIs(caught.exception.name, number)

    def test_other_rows(self):
        version = version_with_call()
        for number, row in enumerate(version.rows()):
            if row[0] != "call":
                self.refused(self.good(), version, number)
        piece = Piece("fun main(a, b) {let c = a.m(b); return c;} fun f(s, x) {return s;}")
        self.refused(slow(piece.program, "f"), slow(piece.program, "main"), 1, piece)

    def test_numbers_of_parameters(self):
        self.inside(self.good())
        self.refused(Piece(TEXT, "one").version([("return", 0, 0)]))
        piece = Piece("fun main(a) {let c = call a(); return c;} fun f() {return none;} fun g(x) {return x;}")
        version = slow(piece.program, "main")
        f = gone_on(piece.program, slow(piece.program, "f"), 2)
        self.assertEqual(self.inside(f, version, 1, piece).row(2)[:1], ("const",))
        self.refused(slow(piece.program, "g"), version, 1, piece)

    def test_names_watched_facts_and_points(self):
        good = self.good()
        self.refused(with_part(good, names=["n"]))
        self.refused(with_part(good, watched=[("global", "g", YES)]))
        row, _, places = good.point(0)
        self.refused(with_part(good, points=[(row, (("same", 0, 0),), places)]))
        later = Version("f", [], [], 2, [("point", 0), ("return", 0, 1)], [(1, (), ((1, ("reg", 1)),))])
        check_version(MAIN.program, later)
        self.refused(later)
        # Other points may have facts and stand anywhere.
        more = Version("f", [], [], 2, good.rows() + [("point", 1), ("link", 1, 1)],
                       [good.point(0), (1, (("kind", 1, "num"),), ((1, ("reg", 1)),))])
        self.inside(more)

    def test_links_and_calls(self):
        self.refused(slow(MAIN.program, "f"))
        piece = Piece("fun main(a, b) {let c = call a(b); return c;} fun f(x) {let y = call x(x); return y;} fun g(x) {let y = x.m(); return y;}")
        for name in ("f", "g"):
            self.refused(slow(piece.program, name), slow(piece.program, "main"), 1, piece)
        # Also where the link would fit a point of the outer version.
        one, version = Piece(TEXT, "f"), version_with_call(points=((1, ()), (0, ())))
        rows = [("point", 0), ("link", 1, 2), ("point", 1), ("stop", one.end(0, 0)), ("point", 2),
                ("stop", one.end(0, 0))]
        inner = Version("f", [], [], 2, rows, [(0, (), one.places(0))] * 3)
        check_version(MAIN.program, inner)
        self.refused(inner, version)
        # In other pieces they may stand.
        f = Piece(TEXT, "f")
        rows = [("point", 0), ("show", 0), ("return", 1, 1), ("point", 1), ("link", 1, 0)]
        self.inside(Version("f", [], [], 2, rows, [(0, (), f.places(0)), (0, (), f.places(0))]))

    def test_recursion(self):
        piece = Piece("fun main(a) {if a {return call &main(a);} return a;}")
        inner = piece.version([("check", ("is", 0, NO), piece.end(0, 0)), ("return", 1, 0)], more=0)
        version = slow(piece.program, "main")
        # The const of the function and its call come into one piece.
        version = gone_on(piece.program, version, version.rows().index(("link", 1, 2)))
        at = [row[0] for row in version.rows()].index("call")
        told = self.inside(inner, version, at, piece)
        self.assertTrue(is_closed(piece.program, told))


if __name__ == "__main__":
    unittest.main()
