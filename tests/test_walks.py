"""Walks, what they need, and verdicts (S8.6, S8.7); shapeguess/walks.py."""

import unittest

from pieces import S0, S1, Piece, branch_of, val
from samples import NO, NONE, STRANGE, YES, num
from shapeguess.errors import BadPaper
from shapeguess.quick import Version
from shapeguess.walks import verdict

G = ("global", "g")
OTHER = "other"


def of(field, o=0):
    return ("field", o, field)


def known(term, kind, which="further"):
    """The members of a branch that settle a term which is neither none nor a bit."""
    return [("kind", term), kind, ("which", term), which]


def an_object(term, o=0):
    """The members that settle a term as the further object o, whose shape is other."""
    return known(term, "obj") + [("shape", o), OTHER]


class WalkTest(unittest.TestCase):
    def at(self, expected, piece, version, *members, k=0):
        self.assertEqual(verdict(piece.program, version, k, branch_of(*members)), expected, members)

    def along(self, expected, piece, version, *members):
        """The verdict is open at each branch on the way to the last one, so that each answer is needed."""
        branch = branch_of(*members)
        for many in range(len(branch)):
            self.assertEqual(verdict(piece.program, version, 0, branch[:many]), "open", branch[:many])
        self.assertEqual(verdict(piece.program, version, 0, branch), expected, branch)


class PlainWalks(WalkTest):
    """The quick walk needs nothing: it stops behind one plain step, or guesses a link."""

    def test_nothing_needed(self):
        piece = Piece("fun main(a) {let b = a; show b; let c = #num:1; return c;}")
        version = piece.version([("stop", piece.end(1, 1, r1=("reg", 0)))])
        self.along("alike", piece, version)
        self.along("unlike", piece, piece.version([("stop", piece.end(1, 1, r1=val(num(1))))],
                                                  facts=[("kind", 0, "obj")]))

    def test_test(self):
        piece = Piece("fun main(a) {if a {show a;} return a;}")
        yes = piece.version([("stop", piece.end(1, 1))])
        no = piece.version([("stop", piece.end(1, 2))])
        for answer, one, other in (("yes", "alike", "unlike"), ("no", "unlike", "alike")):
            self.along(one, piece, yes, ("kind", S0), "bit", ("bit", S0), answer)
            self.along(other, piece, no, ("kind", S0), "bit", ("bit", S0), answer)
        for kind in ("none", "err", "fun", "obj", "num"):
            self.along("unlike", piece, yes, ("kind", S0), kind)

    def test_prim(self):
        piece = Piece("fun main(a, b) {let c = add(a, b); return c;}")
        version = piece.version([("stop", piece.end(1, 1, r2=val(num(5))))])
        numbers = [("kind", S0), "num", ("kind", S1), "num"]
        term = ("variant", "addnum", (S0, S1))
        self.along("alike", piece, version, *numbers, ("which", term), 0)
        self.along("unlike", piece, version, *numbers, ("which", term), "further")
        # Both kinds are needed, also where one of them decides; the result of the other variant has another kind.
        self.along("unlike", piece, version, ("kind", S0), "obj", ("kind", S1), "num")
        self.along("unlike", piece, version, ("kind", S1), "obj", ("kind", S0), "num")
        self.along("unlike", piece, version, ("kind", S0), "num", ("kind", S1), "col")

    def test_prim_without_a_variant(self):
        piece = Piece("fun main(a, b) {let c = neg(a, b); return c;}")
        version = piece.version([("stop", piece.end(1, 1, r2=val(num(5))))])
        self.along("unlike", piece, version, ("kind", S0), "num", ("kind", S1), "num")

    def test_global(self):
        piece = Piece("fun main(a) {let b = $g; return b;}")
        version = piece.version([("stop", piece.end(1, 1, r1=val(NONE)))])
        self.along("alike", piece, version, ("kind", G), "none")
        self.along("unlike", piece, version, ("kind", G), "unset")
        self.along("unlike", piece, version, ("kind", G), "bit")

    def test_global_that_the_walk_set(self):
        piece = Piece("fun main(a) {$g = a; let b = $g; return b;}")
        version = piece.version([("put", "g", 0), ("stop", piece.end(2, 2, r1=("reg", 0)))])
        self.along("alike", piece, version)

    def test_same(self):
        piece = Piece("fun main(a, b) {let c = a == b; return c;}")
        yes = piece.version([("stop", piece.end(1, 1, r2=val(YES)))])
        no = piece.version([("stop", piece.end(1, 1, r2=val(NO)))])
        self.along("unlike", piece, yes, ("kind", S0), "obj", ("kind", S1), "num")
        self.along("alike", piece, no, ("kind", S1), "none", ("kind", S0), "num")
        self.along("alike", piece, yes, ("kind", S0), "none", ("kind", S1), "none")
        self.along("alike", piece, no, *known(S0, "num"), *known(S1, "num"))
        self.along("unlike", piece, no, *known(S0, "num"), *known(S1, "num", 0))
        self.along("alike", piece, yes, *known(S0, "obj"), *known(S1, "obj", 0))
        self.along("alike", piece, yes, ("kind", S0), "bit", ("kind", S1), "bit", ("bit", S1), "no", ("bit", S0), "no")

    def test_same_of_one_term(self):
        piece = Piece("fun main(a, b) {let c = a == b; return c;}")
        version = piece.version([("stop", piece.end(1, 1, r2=val(YES)))], [("same", 0, 1)])
        self.along("alike", piece, version)
        piece = Piece("fun main(a, b) {let c = add(a, b) == add(a, b); return c;}")
        version = piece.version([("stop", piece.end(3, 3, r2=val(YES)))])
        self.along("alike", piece, version, ("kind", S0), "num", ("kind", S1), "num")
        # The two results are two terms, unless they count as one.
        piece = Piece("fun main(a, b) {let c = neg(a) == neg(b); return c;}")
        version = piece.version([("stop", piece.end(3, 3, r2=val(YES)))])
        self.along("alike", piece, version, *known(S0, "num"), *known(S1, "num", 0))
        version = piece.version([("stop", piece.end(3, 3, r2=val(YES)))], [("same", 0, 1)])
        self.along("alike", piece, version, ("kind", S0), "num")

    def test_same_of_fresh_objects(self):
        piece = Piece("fun main(a) {let b = new(none) == a; return b;}")
        version = piece.version([("stop", piece.end(3, 3, r1=val(NO)))])
        self.along("alike", piece, version)
        piece = Piece("fun main(a) {let b = new(none); let c = b == b; return c;}")
        version = piece.version([("stop", piece.end(3, 3, r2=val(YES)))])
        self.along("alike", piece, version)
        piece = Piece("fun main(a) {let c = new(none) == new(none); return c;}")
        version = piece.version([("stop", piece.end(5, 5, r1=val(NO)))])
        self.along("alike", piece, version)

    def test_get(self):
        piece = Piece("fun main(a) {let b = a.f; return b;}")
        version = piece.version([("stop", piece.end(1, 1, r1=val(NONE)))])
        for kind in ("none", "bit", "err", "fun", "num"):
            self.along("unlike", piece, version, ("kind", S0), kind)
        found = an_object(S0)
        self.along("alike", piece, version, *found, ("has", 0, "f"), "yes", ("kind", of("f")), "none")
        self.along("unlike", piece, version, *found, ("has", 0, "f"), "yes", ("kind", of("f")), "err")
        missed = found + [("has", 0, "f"), "no"]
        self.along("unlike", piece, version, *missed, ("parent", 0), "none")
        above = missed + [("parent", 0), "further", ("shape", 1), OTHER]
        self.along("alike", piece, version, *above, ("has", 1, "f"), "yes", ("kind", of("f", 1)), "none")
        above += [("has", 1, "f"), "no", ("parent", 1), "further", ("shape", 2), OTHER, ("has", 2, "f"), "no"]
        self.along("unlike", piece, version, *above, ("parent", 2), "none")

    def test_get_at_told_shapes(self):
        piece = Piece("fun main(a) {let b = a.f; return b;}")
        facts = [("shape", 0, ("n", ("e",)))]
        version = piece.version([("stop", piece.end(1, 1, r1=val(NONE)))], facts, ["n"])
        self.along("alike", piece, version, ("which", S0), "further", ("shape", 0), OTHER, ("has", 0, "f"), "yes",
                   ("kind", of("f")), "none")
        version = piece.version([("stop", piece.end(1, 1, r1=val(NONE)))], facts, ["n"],
                                [("holds", "n", (None, ("f",)))])
        self.along("alike", piece, version, ("which", S0), "further", ("kind", of("f")), "none")
        version = piece.version([("stop", piece.end(1, 1, r1=val(NONE)))], facts, ["n"],
                                [("holds", "n", (None, ("g",)))])
        self.along("unlike", piece, version, ("which", S0), "further")

    def test_method(self):
        piece = Piece("fun main(a, b) {let c = a.m(b); return c;} fun two(s, x) {return x;} fun one(s) {return s;}")
        inside = (1, (("main", 0, ()), ("two", 0, ((1, ("reg", 1)),))))
        version = piece.version([("stop", inside)])
        for kind in ("none", "bit", "num"):
            self.along("unlike", piece, version, ("kind", S0), kind)
        found = an_object(S0) + [("has", 0, "m"), "yes"]
        for kind in ("none", "bit", "err", "obj", "num"):
            self.along("unlike", piece, version, *found, ("kind", of("m")), kind)
        # The functions are main, two and one; main has two parameters, too.
        for answer, expected in ((0, "unlike"), (1, "alike"), (2, "unlike"), ("further", "unlike")):
            self.along(expected, piece, version, *found, ("kind", of("m")), "fun", ("which", of("m")), answer)
        missed = an_object(S0) + [("has", 0, "m"), "no"]
        self.along("unlike", piece, version, *missed, ("parent", 0), "none")
        above = missed + [("parent", 0), "further", ("shape", 1), OTHER, ("has", 1, "m"), "yes"]
        self.along("alike", piece, version, *above, *known(of("m", 1), "fun", 1))

    def test_call(self):
        piece = Piece("fun main(a, b) {let c = call a(b); return c;} fun one(x) {return x;} fun two(x, y) {return x;}")
        version = piece.version([("stop", (1, (("main", 0, ()), ("one", 0, ((0, ("reg", 1)),)))))])
        for kind in ("none", "bit", "err", "obj", "num"):
            self.along("unlike", piece, version, ("kind", S0), kind)
        for answer, expected in ((0, "unlike"), (1, "alike"), (2, "unlike"), ("further", "unlike")):
            self.along(expected, piece, version, *known(S0, "fun", answer))

    def test_new(self):
        piece = Piece("fun main(a) {let b = new(a); return b;}")
        # A fresh object is no value that was there, and nothing where an error is thrown.
        version = piece.version([("stop", piece.end(1, 1, r1=("reg", 0)))])
        for kind in ("none", "bit", "fun", "num"):
            self.along("unlike", piece, version, ("kind", S0), kind)
        self.along("unlike", piece, version, *an_object(S0), ("parent", 0), "none")
        above = an_object(S0) + [("parent", 0), "further", ("shape", 1), OTHER]
        self.along("unlike", piece, version, *above, ("parent", 1), "none")
        self.along("unlike", piece, version, *above, ("parent", 1), "further")

    def test_new_too_deep(self):
        piece = Piece("fun main(a) {try {let b = new(a); show a;} catch e {show a;} return a;}")
        self.assertEqual(piece.code.stretches(), [(0, 2, 3, 2)])
        caught = piece.version([("stop", piece.end(1, 3))])
        fine = piece.version([("stop", piece.end(1, 1))])
        above = an_object(S0) + [("parent", 0), "further", ("shape", 1), OTHER, ("parent", 1)]
        for answer, one, other in (("none", "alike", "unlike"), ("further", "unlike", "alike")):
            self.along(one, piece, fine, *above, answer)
            self.along(other, piece, caught, *above, answer)
        facts = [("is", 0, ("name", "n"))]
        watched = [("holds", "n", ("o", ())), ("holds", "o", (None, ()))]
        self.along("alike", piece, piece.version([("stop", piece.end(1, 1))], facts, ["n", "o"], watched))
        watched = [("holds", "n", ("o", ())), ("holds", "o", ("p", ()))]
        self.along("alike", piece, piece.version([("stop", piece.end(1, 3))], facts, ["n", "o", "p"], watched))

    def test_set(self):
        piece = Piece("fun main(a, b) {a.f = b; return a;}")
        version = piece.version([("stop", piece.end(1, 1))])
        for kind in ("none", "bit", "fun", "num"):
            self.along("unlike", piece, version, ("kind", S0), kind)
        self.along("unlike", piece, version, *an_object(S0), ("has", 0, "f"), "no")
        had = an_object(S0) + [("has", 0, "f"), "yes", ("kind", S1), "none", ("kind", of("f"))]
        self.along("alike", piece, version, *had, "none")
        self.along("unlike", piece, version, *had, "err")

    def test_set_at_a_told_shape(self):
        piece = Piece("fun main(a, b) {a.f = b; return a;}")
        for fields, expected in ((("f",), "alike"), (("f", "g"), "alike"), (("g",), "unlike"), ((), "unlike")):
            version = piece.version([("stop", piece.end(1, 1))], [("is", 0, ("name", "n")), ("is", 1, NONE)], ["n"],
                                    [("holds", "n", (None, fields))])
            members = [("kind", of("f")), "none"] if expected == "alike" else []
            self.along(expected, piece, version, *members)

    def test_drop(self):
        piece = Piece("fun main(a) {try {drop a.f; show a;} catch e {show a;} return a;}")
        # Register 1 takes the error, which is not needed.
        version = piece.version([("stop", piece.end(1, 3))])
        for kind in ("none", "bit", "fun", "num"):
            self.along("alike", piece, version, ("kind", S0), kind)
        self.along("alike", piece, version, *an_object(S0), ("has", 0, "f"), "no")
        self.along("unlike", piece, version, *an_object(S0), ("has", 0, "f"), "yes")
        self.along("unlike", piece, piece.version([("stop", piece.end(1, 1))]), *an_object(S0), ("has", 0, "f"), "yes")

    def test_looks_behind_changes(self):
        # Nothing is needed of a field that the walk dropped or put since, but of the object above.
        piece = Piece("fun main(a, b) {drop a.f; a.f = b; let c = a.f; return c;}")
        version = piece.version([("drop", 0, "f", piece.end(0, 0)), ("set", 0, "f", 1, piece.end(1, 1)),
                                 ("stop", piece.end(3, 3, r2=("reg", 1)))])
        self.along("alike", piece, version, *an_object(S0), ("has", 0, "f"), "yes")
        piece = Piece("fun main(a, b) {a.f = b; let c = a.f; return c;}")
        rows = [("set", 0, "f", 1, piece.end(0, 0)), ("get", 4, 0, "f", piece.end(0, 0)),
                ("stop", piece.end(2, 2, r2=("reg", 4)))]
        for version in (piece.version(rows), piece.version(rows[:1] + [("stop", piece.end(2, 2, r2=("reg", 1)))])):
            for answer in ("yes", "no"):
                self.along("alike", piece, version, *an_object(S0), ("has", 0, "f"), answer)
        piece = Piece("fun main(a, b) {a.f = b; drop a.f; let c = a.f; return c;}")
        rows = [("set", 0, "f", 1, piece.end(0, 0)), ("drop", 0, "f", piece.end(1, 1))]
        version = piece.version(rows + [("stop", piece.end(3, 3, r2=val(NONE)))])
        for answer in ("yes", "no"):
            self.along("unlike", piece, version, *an_object(S0), ("has", 0, "f"), answer, ("parent", 0), "none")

    def test_inner_frames(self):
        piece = Piece("fun main(a) {let b = call &id(a); return b;} fun id(x) {let y = x; return y;}")
        back = piece.version([("stop", piece.end(4, 2, r1=("reg", 0)))])
        self.along("alike", piece, back)
        told = ((0, ("reg", 0)),)
        inside = [("main", 1, ()), ("id", 0, told)]
        self.along("alike", piece, piece.version([("stop", (2, tuple(inside)))]))
        self.along("unlike", piece, piece.version([("stop", (3, tuple(inside)))]))
        inside[1] = ("id", 1, ((1, ("reg", 0)),))
        self.along("alike", piece, piece.version([("stop", (3, tuple(inside)))]))
        self.along("unlike", piece, piece.version([("stop", (2, tuple(inside)))]))
        # Other values in the frame that waits, and in the innermost one.
        piece = Piece("fun main(a) {let b = call &id(none); return a;} fun id(x) {let y = x; return y;}")
        for place, inner, expected in ((("reg", 0), val(NONE), "alike"), (val(NONE), val(NONE), "open"),
                                       (("reg", 0), val(YES), "unlike"), (val(YES), val(NONE), "open")):
            frames = (("main", 2, ((0, place),)), ("id", 0, ((0, inner),)))
            self.at(expected, piece, piece.version([("stop", (3, frames))]))

    def test_throws_through_frames(self):
        piece = Piece("fun main(a) {try {call &bad(a);} catch e {return e;} return a;} "
                      "fun bad(x) {let y = #num:1; throw x;}")
        handler = piece.code.stretches()[0][2]
        version = piece.version([("stop", piece.end(4, handler, r1=("reg", 0)))])
        self.along("alike", piece, version)
        piece = Piece("fun main(a) {show call &bad(a); return a;} fun bad(x) {let y = #num:1; throw x;}")
        for steps in (3, 4, 5):
            version = piece.version([("stop", piece.end(steps, 3))])
            self.along("unlike", piece, version)

    def test_no_plain_walk_where_the_quick_walk_is_stuck(self):
        piece = Piece("fun main(a) {let b = a.f; return b;}")
        version = piece.version([("const", 2, NONE), ("test", 2, 3), ("stop", piece.end(1, 1, r1=val(NONE)))])
        self.along("unlike", piece, version)


class QuickWalks(WalkTest):
    """The plain walk makes no step: the quick rows go back at last, and show what they changed."""

    piece = Piece("fun main(a, b) {a.f = b; a.g = b; show add(a.m(), $g); return a;} fun one(s) {return s;}")
    back = piece.end(0, 0)

    def goes(self, expected, rows, *members, facts=(), names=(), watched=()):
        version = self.piece.version(list(rows) + [("stop", self.back)], facts, names, watched)
        self.along(expected, self.piece, version, *members)

    def test_rows_that_need_nothing(self):
        self.goes("alike", [("const", 2, num(1)), ("const", 2, ("name", "n")), ("move", 3, 0), ("same", 4, 0, 3)],
                  names=["n"])
        self.goes("alike", [("jump", 2)])

    def test_checks_of_kinds(self):
        for kind in ("none", "num", "obj", "fun"):
            self.goes("alike", [("check", ("kind", 0, "obj"), self.back)], ("kind", S0), kind)
        self.goes("alike", [("const", 2, NONE), ("new", 2, 2, self.back), ("check", ("kind", 2, "obj"), self.back)])

    def test_checks_of_marks(self):
        row = ("check", ("is", 0, num(3)), self.back)
        self.goes("alike", [row], ("kind", S0), "num", ("which", S0), 0)
        self.goes("alike", [row], ("kind", S0), "obj")
        self.goes("alike", [("check", ("is", 0, NONE), self.back)], ("kind", S0), "none")
        self.goes("alike", [("check", ("is", 0, YES), self.back)], ("kind", S0), "bit", ("bit", S0), "no")
        self.goes("alike", [("check", ("is", 0, ("name", "n")), self.back)], *known(S0, "obj"), names=["n"])
        self.goes("alike", [row], facts=[("is", 0, num(3))])
        self.goes("alike", [("const", 2, NONE), ("new", 2, 2, self.back), ("check", ("is", 2, num(3)), self.back)])

    def test_checks_of_same_and_unlike(self):
        for word in ("same", "unlike"):
            row = ("check", (word, 0, 1), self.back)
            self.goes("alike", [row], ("kind", S0), "num", ("kind", S1), "obj")
            self.goes("alike", [row], ("kind", S1), "none", ("kind", S0), "none")
            self.goes("alike", [row], *known(S0, "err", 0), *known(S1, "err", 3))
            self.goes("alike", [row], facts=[("same", 0, 1)])
            self.goes("alike", [("move", 2, 0), ("check", (word, 0, 2), self.back)])
            self.goes("alike", [("const", 2, NONE), ("new", 2, 2, self.back), ("check", (word, 0, 2), self.back)])

    def test_checks_of_shapes(self):
        row = ("check", ("shape", 0, ("n", ("f",))), self.back)
        for kind in ("none", "fun", "num"):
            self.goes("alike", [row], ("kind", S0), kind, names=["n"])
        for shape in (("n", ("f",)), OTHER):
            self.goes("alike", [row], *known(S0, "obj"), ("shape", 1), shape, names=["n"])
            self.goes("alike", [row], *known(S0, "obj", 0), ("shape", 0), OTHER, names=["n"])

    def test_load_store_grow(self):
        whole, less = ("n", ("f", "g")), ("n", ("f",))
        told = {"names": ["n", "o"], "watched": [("holds", "o", (None, ("h",)))]}
        for row in (("load", 2, 0, whole, "g"), ("store", 0, whole, "g", 1), ("grow", 0, less, "g", 1)):
            for kind in ("none", "fun", "num"):
                self.goes("unlike", [row], ("kind", S0), kind, names=["n"])
            self.goes("unlike", [row], *known(S0, "obj"), ("shape", 1), OTHER, names=["n"])
            self.goes("unlike", [row], *known(S0, "obj"), ("shape", 2), (None, ("h",)), **told)
            self.goes("unlike", [row], *known(S0, "obj", 1), **told)
        self.goes("alike", [("load", 2, 0, whole, "g")], *known(S0, "obj"), ("shape", 1), whole, names=["n"])
        store = [("store", 0, whole, "g", 1)]
        self.goes("alike", store, *known(S0, "obj"), ("shape", 1), whole, ("kind", of("g", 1)), "none",
                  facts=[("is", 1, NONE)], names=["n"])
        self.goes("unlike", store, *known(S0, "obj"), ("shape", 1), whole, ("kind", of("g", 1)), "bit",
                  facts=[("is", 1, NONE)], names=["n"])
        grow = [("grow", 0, less, "g", 1)]
        self.goes("unlike", grow, *known(S0, "obj"), ("shape", 1), less, names=["n"])
        # Dropped again, a grown field has changed nothing.
        self.goes("alike", grow + [("drop", 0, "g", self.back)], *known(S0, "obj"), ("shape", 1), less, names=["n"])

    def test_shapes_that_the_walk_made(self):
        told = [("check", ("shape", 2, ("n", ("f",))), self.back), ("load", 3, 2, ("n", ("f",)), "f"), ("show", 3)]
        made = [("const", 2, ("name", "n")), ("new", 2, 2, self.back), ("set", 2, "f", 1, self.back)]
        watched = [("holds", "n", (None, ()))]
        self.goes("unlike", made + told, names=["n"], watched=watched)
        rest = [("check", ("shape", 2, ("n", ("g",))), self.back), ("show", 1)]
        self.goes("alike", made + rest, names=["n"], watched=watched)
        self.goes("alike", [("const", 2, NONE)] + made[1:] + told, names=["n"], watched=watched)
        # A known object whose last field goes comes to the told shape.
        start = [("n", ("f", "g")), ("n", ("g", "f")), ("n", ("f",)), OTHER]
        rows = [("drop", 0, "g", self.back), ("check", ("shape", 0, ("n", ("f",))), self.back), ("put", "g", 0)]
        facts = [("kind", 0, "obj")]
        for shape in start[:2]:
            self.goes("unlike", rows, ("which", S0), "further", ("shape", 1), shape, facts=facts, names=["n"])
        self.goes("alike", rows, ("which", S0), "further", ("shape", 1), ("n", ("f",)), facts=facts, names=["n"])

    def test_variant(self):
        row = ("variant", 2, "addnum", (0, 1))
        self.goes("alike", [row], ("kind", S0), "num", ("kind", S1), "num")
        self.goes("unlike", [row], ("kind", S0), "num", ("kind", S1), "col")
        self.goes("unlike", [row], ("kind", S0), "obj", ("kind", S1), "num")
        self.goes("unlike", [row], ("kind", S1), "bit", ("kind", S0), "num")

    def test_test(self):
        rows = [("test", 0, 3), ("show", 0)]
        self.goes("unlike", rows, ("kind", S0), "bit", ("bit", S0), "yes")
        self.goes("alike", rows, ("kind", S0), "bit", ("bit", S0), "no")
        self.goes("unlike", rows, ("kind", S0), "num")

    def test_rows_with_ends(self):
        back, shown = self.back, [("show", 0)]
        for row in (("get", 2, 0, "f", back), ("set", 0, "f", 1, back), ("drop", 0, "f", back), ("new", 2, 0, back)):
            self.goes("alike", [row] + shown, ("kind", S0), "err")
        self.goes("unlike", [("new", 2, 0, back)] + shown, ("kind", S0), "none")
        found = an_object(S0)
        self.goes("alike", [("get", 2, 0, "f", back)] + shown, *found, ("has", 0, "f"), "no", ("parent", 0), "none")
        self.goes("unlike", [("get", 2, 0, "f", back)] + shown, *found, ("has", 0, "f"), "yes")
        self.goes("unlike", [("set", 0, "f", 1, back)] + shown, *found, ("has", 0, "f"), "yes")
        self.goes("unlike", [("set", 0, "f", 1, back)] + shown, *found, ("has", 0, "f"), "no")
        self.goes("alike", [("drop", 0, "f", back)] + shown, *found, ("has", 0, "f"), "no")
        self.goes("unlike", [("drop", 0, "f", back)] + shown, *found, ("has", 0, "f"), "yes")
        self.goes("unlike", [("new", 2, 0, back)] + shown, *found, ("parent", 0), "none")
        above = found + [("parent", 0), "further", ("shape", 1), OTHER]
        self.goes("unlike", [("new", 2, 0, back)] + shown, *above, ("parent", 1), "none")
        self.goes("alike", [("new", 2, 0, back)] + shown, *above, ("parent", 1), "further")
        self.goes("alike", [("global", 2, "g", back)] + shown, ("kind", G), "unset")
        self.goes("unlike", [("global", 2, "g", back)] + shown, ("kind", G), "none")
        self.goes("unlike", [("put", "g", 0), ("global", 2, "g", back)] + shown)
        prim = [("prim", 2, "add", (0, 1), back)] + shown
        self.goes("alike", prim, ("kind", S0), "bit", ("kind", S1), "num")
        self.goes("unlike", prim, ("kind", S0), "num", ("kind", S1), "num")
        self.goes("alike", [("prim", 2, "add", (), back)] + shown)

    def test_stop_and_what_stands_behind_it(self):
        self.goes("alike", [("stop", self.back), ("show", 0)])


class Calls(WalkTest):
    piece = Piece("fun main(a, b) {let c = call a(b); return c;} fun one(x) {return x;} fun two(x, y) {return x;}")
    method = Piece("fun main(a, b) {let c = a.m(b); return c;} fun two(s, x) {return s;} fun same(s, x) {return x;}")

    def call(self, rows):
        return self.piece.version(rows[:-1] + [rows[-1] + (self.piece.end(0, 0), 1)], points=[(1, ())])

    def test_needs_of_both_rows(self):
        version = self.call([("call", 2, 0, (1,))])
        self.along("alike", self.piece, version, *known(S0, "fun", 1))
        # It goes back where the plain row throws.
        for answer in (2, "further"):
            self.along("alike", self.piece, version, *known(S0, "fun", answer))
        for kind in ("none", "bit", "obj"):
            self.along("alike", self.piece, version, ("kind", S0), kind)

    def test_guessed_functions(self):
        version = self.call([("const", 3, ("fun", "one")), ("call", 2, 3, (1,))])
        for answer, expected in ((0, "unlike"), (1, "alike"), (2, "unlike"), ("further", "unlike")):
            self.along(expected, self.piece, version, *known(S0, "fun", answer))
        self.along("unlike", self.piece, version, ("kind", S0), "err")
        # The plain walk ends before.
        version = self.piece.version([("const", 3, ("fun", "one")), ("call", 2, 3, (1,), self.piece.end(9, 0), 1)],
                                     points=[(1, ())])
        for answer in (0, 1):
            self.along("unlike", self.piece, version, *known(S0, "fun", answer))
        # A function that is not called needs nothing of the plain walk: it goes back at once.
        for name in ("two", "other"):
            self.along("alike", self.piece, self.call([("const", 3, ("fun", name)), ("call", 2, 3, (1,))]))

    def test_arguments(self):
        version = self.call([("const", 3, num(1)), ("call", 2, 0, (3,))])
        found = known(S0, "fun", 1)
        self.along("alike", self.piece, version, *found, *known(S1, "num", 0))
        self.along("unlike", self.piece, version, *found, *known(S1, "num"))
        self.along("unlike", self.piece, version, *found, ("kind", S1), "obj")

    def test_another_row_or_frame(self):
        # The plain run stands elsewhere, or somewhere else in the same function.
        piece = Piece("fun main(a, b) {let c = call a(b); let c = call a(b); return c;} fun one(x) {return x;}")
        found = known(S0, "fun", 1)
        for steps, row, expected in ((0, 0, "alike"), (1, 0, "unlike"), (2, 1, "alike"), (0, 1, "unlike"),
                                     (3, 1, "unlike")):
            version = piece.version([("call", 2, 0, (1,), piece.end(steps, row), 1)], points=[(row + 1, ())])
            self.at(expected, piece, version, *found)

    def test_facts_of_the_point_behind(self):
        piece = Piece("fun main(a, b) {let c = call &one(b); show a; show b; return c;} fun one(x) {return x;}")

        def version(*facts):
            end = piece.end(1, 1)
            return piece.version([("const", 3, ("fun", "one")), ("call", 2, 3, (1,), end, 1)], points=[(2, facts)])

        self.along("alike", piece, version())
        self.along("alike", piece, version(("kind", 0, "num")), ("kind", S0), "num")
        self.along("unlike", piece, version(("kind", 0, "num")), ("kind", S0), "obj")
        self.along("alike", piece, version(("is", 0, NONE)), ("kind", S0), "none")
        self.along("unlike", piece, version(("is", 0, num(1))), *known(S0, "num"))
        self.along("alike", piece, version(("same", 0, 0)))
        self.along("unlike", piece, version(("unlike", 0, 0)))
        # What all of the facts need is needed, also if one of them fails.
        both = version(("kind", 0, "num"), ("kind", 1, "num"))
        self.along("unlike", piece, both, ("kind", S0), "obj", ("kind", S1), "num")
        self.along("unlike", piece, both, ("kind", S1), "obj", ("kind", S0), "num")

    def test_facts_behind_a_call_that_goes_back_are_not_needed(self):
        version = self.call([("call", 2, 0, (1,))])
        self.along("alike", self.piece, version, ("kind", S0), "none")
        piece = Piece("fun main(a, b) {let c = call a(b); show b; return c;} fun one(x) {return x;}")
        version = piece.version([("call", 2, 0, (1,), piece.end(0, 0), 1)], points=[(1, [("kind", 1, "num")])])
        self.along("alike", piece, version, ("kind", S0), "none")
        self.along("unlike", piece, version, *known(S0, "fun", 1), ("kind", S1), "col")

    def test_methods(self):
        rows = [("method", 2, 0, "m", (1,), self.method.end(0, 0), 1)]
        version = self.method.version(rows, points=[(1, ())])
        found = an_object(S0) + [("has", 0, "m"), "yes"]
        for answer in (0, 1, 2, "further"):
            self.along("alike", self.method, version, *found, *known(of("m"), "fun", answer))
        self.along("alike", self.method, version, *found, ("kind", of("m")), "num")
        self.along("alike", self.method, version, ("kind", S0), "bit")

    def test_a_method_that_is_called_as_a_function(self):
        for name, args, expected in (("two", (0, 1), "alike"), ("same", (0, 1), "unlike"), ("two", (0, 0), "unlike")):
            rows = [("const", 3, ("fun", name)), ("call", 2, 3, args, self.method.end(0, 0), 1)]
            version = self.method.version(rows, [("kind", 1, "num")], points=[(1, ())])
            found = an_object(S0) + [("has", 0, "m"), "yes", *known(of("m"), "fun", 1)]
            self.along(expected, self.method, version, *found)

    def test_places_of_the_end(self):
        piece = Piece("fun main(a, b) {let c = call &one(b); show a; return c;} fun one(x) {return x;}")
        end = (1, (("main", 1, ((0, val(num(4))), (1, ("reg", 1)), (3, ("reg", 3)))),))
        rows = [("point", 0), ("const", 3, ("fun", "one")), ("call", 2, 3, (1,), end, 1), ("point", 1),
                ("return", 1, 2)]
        points = [(0, (), piece.places(0)), (2, (), ((0, val(num(4))), (2, ("reg", 2))))]
        version = Version("main", [], [], 6, rows, points)
        self.along("alike", piece, version, *known(S0, "num", 0))
        self.along("unlike", piece, version, *known(S0, "num"))


class Returns(WalkTest):
    def test_returns(self):
        piece = Piece("fun main(a, b) {show a; if b {return b;} return a;}")
        back = ("stop", piece.end(1, 1))
        version = piece.version([("show", 0), ("check", ("is", 1, YES), piece.end(1, 1)), ("return", 2, 1)])
        self.along("alike", piece, version, ("kind", S1), "bit", ("bit", S1), "yes")
        self.along("alike", piece, version, ("kind", S1), "num")
        other = piece.version([("show", 0), ("return", 2, 0)])
        self.along("alike", piece, other, ("kind", S1), "bit", ("bit", S1), "no")
        self.at("open", piece, other, ("kind", S1), "bit", ("bit", S1), "yes")
        self.along("unlike", piece, other, ("kind", S1), "bit", ("bit", S1), "yes", ("kind", S0), "obj")
        self.along("unlike", piece, other, ("kind", S1), "obj")
        self.along("unlike", piece, piece.version([("return", 2, 0)]), ("kind", S1), "bit", ("bit", S1), "no")
        self.along("alike", piece, piece.version([("show", 0), back]))

    def test_counts(self):
        piece = Piece("fun main(a) {show a; return a;}")
        for steps, expected in ((0, "unlike"), (1, "alike"), (2, "unlike"), (3, "unlike"), (9, "unlike")):
            self.along(expected, piece, piece.version([("show", 0), ("return", steps, 0)]))

    def test_inner_frames_return(self):
        # Behind two steps the plain run stands at the return of the inner frame, behind three at that of its own.
        piece = Piece("fun main(a) {let b = call &id(a); return b;} fun id(x) {return x;}")
        for steps, expected in ((1, "unlike"), (2, "unlike"), (3, "alike"), (4, "unlike")):
            self.along(expected, piece, piece.version([("return", steps, 0)]))
        piece = Piece("fun main(a) {return a; let b = call &main(a); return b;}")
        self.along("alike", piece, piece.version([("return", 0, 0)]))
        self.along("unlike", piece, piece.version([("return", 2, 0)], at=1))
        self.along("alike", piece, piece.version([("return", 3, 0)], at=1))


class Links(WalkTest):
    piece = Piece("fun main(a, b) {show a; let c = #num:1; show b; return a;}")

    def linked(self, rows, steps, row, *facts, **more):
        rows = list(rows) + [("link", steps, 1)]
        return self.piece.version(rows, points=[(row, facts)], **more)

    def test_counts_and_rows(self):
        for steps, row, expected in ((1, 1, "alike"), (2, 1, "unlike"), (2, 2, "alike"), (1, 2, "unlike"),
                                     (3, 2, "unlike"),
                                     (9, 2, "unlike")):
            self.along(expected, self.piece, self.linked([("show", 0)], steps, row))

    def test_facts_of_the_next_point(self):
        def at(fact, *members, rows=(("show", 0),), **more):
            return self.linked(rows, 1, 1, fact, **more), members

        for expected, (version, members) in (
            ("alike", at(("kind", 0, "num"), ("kind", S0), "num")),
            ("unlike", at(("kind", 0, "num"), ("kind", S0), "none")),
            ("alike", at(("is", 0, NONE), ("kind", S0), "none")),
            ("unlike", at(("is", 0, NONE), ("kind", S0), "bit")),
            ("unlike", at(("is", 0, YES), ("kind", S0), "bit", ("bit", S0), "no")),
            ("alike", at(("is", 0, ("name", "n")), *known(S0, "obj", 0), names=["n"])),
            ("unlike", at(("is", 0, ("name", "n")), *known(S0, "obj"), names=["n"])),
            ("alike", at(("same", 0, 0))),
            ("unlike", at(("unlike", 1, 1))),
            ("alike", at(("unlike", 0, 1), ("kind", S0), "obj", ("kind", S1), "num")),
            ("unlike", at(("same", 0, 1), ("kind", S0), "obj", ("kind", S1), "num")),
            ("alike", at(("same", 0, 1), ("kind", S0), "none", ("kind", S1), "none")),
            ("alike", at(("same", 0, 1), *known(S0, "num"), *known(S1, "num", 1))),
            ("unlike", at(("unlike", 0, 1), *known(S0, "num"), *known(S1, "num", 1))),
            ("unlike", at(("same", 0, 1), *known(S0, "num"), *known(S1, "num", 0))),
            ("alike", at(("same", 0, 1), facts=[("same", 0, 1)])),
            ("unlike", at(("shape", 0, (None, ("f",))), ("kind", S0), "num")),
            ("unlike", at(("shape", 0, (None, ("f",))), *an_object(S0))),
            ("alike", at(("shape", 0, (None, ("f",))), *known(S0, "obj"), ("shape", 0), (None, ("f",)))),
        ):
            self.along(expected, self.piece, version, *members)
        both = self.linked([("show", 0)], 1, 1, ("kind", 0, "num"), ("kind", 1, "num"))
        self.along("unlike", self.piece, both, ("kind", S0), "obj", ("kind", S1), "num")

    def test_facts_are_those_behind_the_piece(self):
        piece = Piece("fun main(a, b) {a.f = b; return a;}")
        facts = [("is", 0, ("name", "n"))]
        for told, expected in (((None, ("e", "f")), "alike"), ((None, ("e",)), "unlike")):
            rows = [("grow", 0, (None, ("e",)), "f", 1), ("link", 1, 1)]
            version = piece.version(rows, facts, ["n"], [("holds", "n", (None, ("e",)))], [(1, [("shape", 0, told)])])
            self.along(expected, piece, version)

    def test_broken_watched_facts_do_not_matter(self):
        piece = Piece("fun main(a, b) {$g = a; return a;}")
        version = piece.version([("put", "g", 0), ("link", 1, 1)], [("is", 0, NO)], [], [("global", "g", YES)],
                                [(1, ())])
        self.along("alike", piece, version)

    def test_places_of_the_next_point(self):
        piece = Piece("fun main(a) {let b = a; return b;}")
        for place, members, expected in ((("reg", 0), (), "alike"), (val(num(1)), known(S0, "num", 0), "alike"),
                                         (val(num(1)), known(S0, "num"), "unlike"),
                                         (("name", "n"), known(S0, "obj", 0), "alike"),
                                         (("name", "n"), known(S0, "obj"), "unlike"),
                                         (val(NONE), (("kind", S0), "err"), "unlike")):
            rows = [("point", 0), ("link", 1, 1), ("point", 1), ("stop", (0, (("main", 1, ((1, place),)),)))]
            version = Version("main", ["n"], [], 3, rows, [(0, (), piece.places(0)), (1, (), ((1, place),))])
            self.along(expected, piece, version, *members)


class Comparisons(WalkTest):
    """What was shown, globals, objects, and pairings of fresh objects."""

    def test_shown(self):
        piece = Piece("fun main(a, b) {show a; show b; return a;}")
        for rows, expected in (([0, 1], "alike"), ([0], "unlike"), ([], "unlike"), ([0, 1, 1], "unlike")):
            self.along(expected, piece, piece.version([("show", q) for q in rows] + [("link", 2, 1)], points=[(2, ())]))
        turned = piece.version([("show", 1), ("show", 0), ("link", 2, 1)], points=[(2, ())])
        self.along("unlike", piece, turned, ("kind", S0), "num", ("kind", S1), "obj")
        self.along("alike", piece, turned, ("kind", S0), "none", ("kind", S1), "none")
        self.along("alike", piece, turned, *known(S0, "num"), *known(S1, "num", 0))
        self.along("unlike", piece, turned, *known(S0, "num"), *known(S1, "num"))

    def test_globals(self):
        piece = Piece("fun main(a, b) {$g = a; $h = b; return a;}")
        both = [("put", "g", 0), ("put", "h", 1)]
        self.along("alike", piece, piece.version(both + [("link", 2, 1)], points=[(2, ())]))
        self.along("alike", piece, piece.version(both[::-1] + [("link", 2, 1)], points=[(2, ())]))
        self.along("alike", piece, piece.version([("put", "g", 1)] + both + [("link", 2, 1)], points=[(2, ())]))
        one = piece.version([("put", "g", 0), ("link", 2, 1)], points=[(2, ())])
        for kind, expected in (("unset", "unlike"), ("none", "unlike")):
            self.along(expected, piece, one, ("kind", S1), "num", ("kind", ("global", "h")), kind)
        self.along("alike", piece, one, ("kind", S1), "none", ("kind", ("global", "h")), "none")
        self.along("unlike", piece, one, ("kind", ("global", "h")), "unset")
        # A global that the quick walk alone set.
        more = piece.version([("put", "g", 0), ("put", "k", 0), ("put", "h", 1), ("link", 2, 1)], points=[(2, ())])
        self.along("unlike", piece, more, ("kind", ("global", "k")), "unset")
        self.along("alike", piece, more, ("kind", ("global", "k")), "none", ("kind", S0), "none")

    def test_own_fields_of_told_shapes(self):
        piece = Piece("fun main(a, b) {a.f = b; a.g = b; return a;}")
        facts, names, watched = [("is", 0, ("name", "n"))], ["n"], [("holds", "n", (None, ("e",)))]

        def version(*fields):
            rows = [("set", 0, field, 1, piece.end(0, 0)) for field in fields]
            return piece.version(rows + [("link", 2, 1)], facts, names, watched, [(2, ())])

        self.along("alike", piece, version("f", "g"))
        self.along("unlike", piece, version("g", "f"))
        self.along("unlike", piece, version("f"))
        self.along("unlike", piece, version())
        self.along("alike", piece, version("f", "g", "f"))
        self.along("alike", piece, version("f", "g", "e"), ("kind", S1), "none", ("kind", of("e")), "none")
        self.along("unlike", piece, version("f", "g", "e"), ("kind", S1), "bit", ("kind", of("e")), "err")

    def test_own_fields_of_other_objects(self):
        piece = Piece("fun main(a, b) {drop a.e; a.f = b; a.g = b; return a;}")
        found = an_object(S0)

        def version(*rows):
            rows = [(row[0],) + (0,) + row[1:] + (piece.end(0, 0),) for row in rows]
            return piece.version(rows + [("link", 3, 1)], points=[(3, ())])

        drop, f, g = ("drop", "e"), ("set", "f", 1), ("set", "g", 1)
        fields = [("has", 0, "e"), "yes", ("has", 0, "f"), "no", ("has", 0, "g"), "no"]
        self.along("alike", piece, version(drop, f, g), *found, *fields)
        self.at("alike", piece, version(f, g, drop), *found, *fields)
        self.at("alike", piece, version(f, drop, g), *found, *fields)
        for rows in ((drop, g, f), (f, g), (drop, f), (drop, f, g, ("drop", "f")), (drop, f, g, ("set", "e", 1)),
                     (drop, f, g, ("drop", "f"), f)):
            self.at("unlike", piece, version(*rows), *found, *fields)
        # Fields that the object has already get values where they are.
        fields = [("has", 0, "e"), "yes", ("has", 0, "f"), "yes", ("has", 0, "g"), "yes"]
        self.at("alike", piece, version(drop, f, g), *found, *fields)
        self.at("alike", piece, version(drop, g, f), *found, *fields)
        self.at("open", piece, version(drop, f), *found, *fields)
        values = [("kind", S1), "none", ("kind", of("g")), "none"]
        self.at("alike", piece, version(drop, f), *found, *fields, *values)
        self.at("unlike", piece, version(drop, f), *found, *fields, *values[:3], "err")
        self.at("unlike", piece, version(drop, f, g, ("drop", "g")), *found, *fields, *values)
        self.at("unlike", piece, version(drop, f, ("drop", "g"), g), *found, *fields, *values)
        self.at("unlike", piece, version(f, g), *found, *fields, *values)

    def test_fields_put_since_get_other_values(self):
        piece = Piece("fun main(a, b) {drop a.e; a.e = a; a.e = b; a.f = b; return a;}")
        found = an_object(S0) + [("has", 0, "e"), "yes", ("has", 0, "f"), "yes"]
        drop, one, two, f = [("drop", 0, "e", piece.end(0, 0))] + [("set", 0, field, q, piece.end(0, 0)) for field,
                                                                   q in (("e", 0), ("e", 1), ("f", 1))]
        for rows, expected in (([drop, one, two, f], "alike"), ([drop, two, f], "alike"), ([f, drop, two], "alike"),
                               ([drop, f], "unlike"),
                               ([drop, two, one, two, f], "alike"), ([two, f], "unlike"), ([f], "unlike"),
                               ([drop, f, two, drop], "unlike")):
            self.at(expected, piece, piece.version(rows + [("link", 4, 1)], points=[(4, ())]), *found)
        version = piece.version([drop, two, one, f, ("link", 4, 1)], points=[(4, ())])
        self.at("open", piece, version, *found)
        self.at("unlike", piece, version, *found, ("kind", S1), "num")

    def test_a_value_that_was_set_and_dropped_is_forgotten(self):
        piece = Piece("fun main(a, b) {a.f = b; drop a.f; return a;}")
        version = piece.version([("drop", 0, "f", piece.end(0, 0)), ("link", 2, 1)], points=[(2, ())])
        self.along("alike", piece, version, *an_object(S0), ("has", 0, "f"), "yes")
        self.along("alike", piece, version, *an_object(S0), ("has", 0, "f"), "no")
        version = piece.version([("link", 2, 1)], points=[(2, ())])
        self.along("alike", piece, version, *an_object(S0), ("has", 0, "f"), "no")
        self.along("unlike", piece, version, *an_object(S0), ("has", 0, "f"), "yes")

    def test_fresh_objects(self):
        piece = Piece("fun main(a) {let b = new(none); let c = new(b); b.f = c; c.f = a; show b; return c;}")
        back = piece.end(0, 0)
        b, c, none = 1, 2, 4
        make = [("const", none, NONE), ("new", b, none, back), ("new", c, b, back)]
        fill = [("set", b, "f", c, back), ("set", c, "f", 0, back), ("show", b)]

        def version(rows):
            return piece.version(rows + [("link", 6, 1)], points=[(6, ())])

        self.along("alike", piece, version(make + fill))
        self.along("alike", piece, version(make[:1] + [("new", 5, none, back)] + make[1:] + fill))
        self.along("alike", piece, version(make + fill[1::-1] + fill[2:]))
        for rows in (
            make + fill[1:],
            make[:2] + [("new", c, none, back)] + fill,
            make + [("set", b, "f", b, back)] + fill[1:],
            make + fill[:2] + [("show", c)],
            make + [("set", b, "g", c, back)] + fill,
            make + fill[:2] + [("show", 0)],
            make + fill[:2] + [("show", b), ("new", c, b, back), ("set", c, "f", 0, back)],
        ):
            self.along("unlike", piece, version(rows))

    def test_fresh_objects_made_in_another_order(self):
        piece = Piece("fun main(a) {let b = new(none); let c = new(none); b.f = a; return c;}")
        back = piece.end(0, 0)
        rows = [("const", 4, NONE), ("new", 2, 4, back), ("new", 1, 4, back), ("set", 1, "f", 0, back)]
        self.along("alike", piece, piece.version(rows + [("return", 5, 2)]))
        self.along("unlike", piece, piece.version(rows + [("return", 5, 1)]))
        # An object that is found nowhere need not be made.
        self.along("alike", piece, piece.version(rows[:2] + [("return", 5, 2)]))

    def test_fresh_objects_of_equal_fields_are_paired_one_to_one(self):
        piece = Piece("fun main(a) {let b = new(none); let c = new(none); show b; show c; return b;}")
        back = piece.end(0, 0)
        make = [("const", 4, NONE), ("new", 1, 4, back), ("new", 2, 4, back)]
        for shown, expected in (((1, 2, 1), "alike"), ((2, 1, 2), "alike"), ((1, 1, 1), "unlike"),
                                ((1, 2, 2), "unlike")):
            rows = make + [("show", shown[0]), ("show", shown[1]), ("return", 6, shown[2])]
            self.along(expected, piece, piece.version(rows))

    def test_fresh_objects_are_nothing_else(self):
        piece = Piece("fun main(a) {let b = new(none); show a; show b; show b; return a;}")
        make = [("const", 4, NONE), ("new", 1, 4, piece.end(0, 0)), ("new", 2, 4, piece.end(0, 0))]
        for shown, expected in (((0, 1, 1), "alike"), ((1, 1, 1), "unlike"), ((0, 0, 1), "unlike"),
                                ((0, 1, 2), "unlike"), ((0, 2, 2), "alike"),
                                ((0, 1, 0), "unlike")):
            version = piece.version(make + [("show", q) for q in shown] + [("link", 5, 1)], points=[(5, ())])
            self.along(expected, piece, version)

    def test_own_fields_of_fresh_objects_with_parents(self):
        piece = Piece("fun main(a) {let b = new(none); let c = new(b); c.f = a; show c; return a;}")
        back = piece.end(0, 0)
        make = [("const", 4, NONE), ("new", 1, 4, back), ("new", 2, 1, back)]
        for fields, parent, expected in ((("f",), (), "alike"), ((), (), "unlike"), (("g",), (), "unlike"),
                                         (("f", "g"), (), "unlike"), (("f",), ("f",), "unlike")):
            rows = make + [("set", 2, field, 0, back) for field in fields] + [("set", 1, field, 0, back)
                                                                              for field in parent]
            self.along(expected, piece, piece.version(rows + [("show", 2), ("link", 5, 1)], points=[(5, ())]))

    def test_parents_of_fresh_objects(self):
        piece = Piece("fun main(a) {let b = new(a); return b;}")
        facts = [("is", 0, ("name", "n"))]
        watched = [("holds", "n", (None, ())), ("holds", "o", (None, ()))]
        for mark, expected in ((("name", "n"), "alike"), (("name", "o"), "unlike"), (NONE, "unlike")):
            rows = [("const", 2, mark), ("new", 1, 2, piece.end(0, 0)), ("return", 1, 1)]
            self.along(expected, piece, piece.version(rows, facts, ["n", "o"], watched))

    def test_variant_terms_count_as_one(self):
        piece = Piece("fun main(a, b) {let c = neg(a); show b; return c;}")
        version = piece.version([("variant", 2, "negnum", (1,)), ("link", 1, 1)], points=[(1, ())])
        numbers = [("kind", S1), "num", ("kind", S0), "num"]
        term, other = (("variant", "negnum", (q,)) for q in (S0, S1))
        self.along("alike", piece, version, *numbers, ("which", term), "further", ("which", other), 0)
        self.along("unlike", piece, version, *numbers, ("which", term), "further", ("which", other), "further")
        self.along("alike", piece, version, *numbers, ("which", S0), "further", ("which", S1), 0)


class Verdicts(WalkTest):
    def test_impossible_comes_first(self):
        piece = Piece("fun main(a) {let b = a.f; return b;}")
        version = piece.version([("const", 2, NONE), ("test", 2, 3), ("stop", piece.end(0, 0))])
        self.at("unlike", piece, version)
        self.at("impossible", piece, version, ("kind", S0), "num", ("kind", S0), "obj")

    def test_open_before_unlike(self):
        # The plain walk needs something, though the next point's facts fail.
        piece = Piece("fun main(a, b) {let c = a.f; show c; return b;}")
        version = piece.version([("get", 2, 0, "f", piece.end(0, 0)), ("link", 1, 1)], [("kind", 1, "num")],
                                points=[(1, [("kind", 1, "obj")])])
        self.along("unlike", piece, version, *an_object(S0), ("has", 0, "f"), "yes")

    def test_terms_of_unlike_facts_are_settled_first(self):
        piece = Piece("fun main(a, b) {show a; return b;}")
        version = piece.version([("link", 1, 1)], [("unlike", 0, 1)], points=[(1, ())])
        self.along("unlike", piece, version, ("kind", S0), "num", ("which", S0), "further", ("kind", S1), "none")
        self.along("unlike", piece, version, ("kind", S1), "none", ("kind", S0), "bit", ("bit", S0), "no")
        self.at("impossible", piece, version, ("kind", S1), "none", ("kind", S0), "none")
        # Where it is alike, they need not be settled.
        version = piece.version([("show", 0), ("link", 1, 1)], [("unlike", 0, 1)], points=[(1, ())])
        self.along("alike", piece, version)
        for fact in (("same", 0, 1), ("kind", 0, "num"), ("is", 0, NONE)):
            version = piece.version([("link", 1, 1)], [fact], points=[(1, ())])
            self.along("unlike", piece, version)

    def test_terms_of_shape_facts_are_settled_first(self):
        piece = Piece("fun main(a, b) {show a; return b;}")
        version = piece.version([("link", 1, 1)], [("shape", 1, (None, ()))], ["n"], points=[(1, ())])
        self.along("unlike", piece, version, ("which", S1), 0)
        self.along("unlike", piece, version, ("which", S1), "further")

    def test_stuck_versions_wait_for_them_too(self):
        piece = Piece("fun main(a, b) {show a; return b;}")
        rows = [("const", 2, NONE), ("test", 2, 3), ("stop", piece.end(0, 0))]
        self.along("unlike", piece, piece.version(rows, [("unlike", 0, 1), ("is", 0, NONE)]), ("kind", S1), "num",
                   ("which", S1), "further")

    def test_pairs_that_cannot_all_match(self):
        # One term would have to be two values: it is open first, and unlike as soon as the term is settled.
        piece = Piece("fun main(a) {show a; show a; return a;}")
        rows = [("const", 1, num(1)), ("show", 1), ("const", 1, num(2)), ("show", 1), ("link", 2, 1)]
        version = piece.version(rows, points=[(2, ())])
        self.along("unlike", piece, version, ("kind", S0), "num", ("which", S0), 0)
        self.along("unlike", piece, version, ("kind", S0), "err")

    def test_second_points(self):
        piece = Piece("fun main(a) {show a; return a;}")
        version = piece.version([("show", 0), ("link", 1, 1)], points=[(1, [("kind", 0, "num")])])
        self.assertEqual(verdict(piece.program, version, 1, []), "alike")
        self.assertEqual(verdict(piece.program, version, 1, [(("kind", S0), "obj")]), "impossible")

    def test_branches_that_are_none(self):
        piece = Piece("fun main(a) {return a;}")
        version = piece.version([("return", 0, 0)])
        for value in STRANGE:
            if value not in ((), []):
                with self.assertRaises(BadPaper):
                    verdict(piece.program, version, 0, value)
            with self.assertRaises(BadPaper):
                verdict(piece.program, version, 0, [(("kind", S0), "num"), value])
        self.assertEqual(verdict(piece.program, version, 0, ()), "alike")


if __name__ == "__main__":
    unittest.main()
