"""Candidates and first known values (S8.2, S8.5); shapeguess/terms.py."""

import unittest

from pieces import Piece, val
from samples import NO, NONE, YES, num
from shapeguess.quick import Version
from shapeguess.terms import candidates, first_known

PIECE = Piece("fun main(a, b) {a.f = b; return a;}")
END = PIECE.end(0, 0)
ERRORS = ["bit", "count", "deep", "field", "function", "global", "kind", "object"]


def known(version, kind, program=PIECE.program):
    return [value[-1] for value in first_known(program, version, kind)]


class Candidates(unittest.TestCase):
    def told(self, rows, facts=(), watched=(), points=()):
        return candidates(PIECE.version(list(rows) + [("stop", END)], facts, ["n", "o"], watched, points))

    def test_none(self):
        self.assertEqual(self.told([]), [])
        # No shape is told, so that a set and a drop lead from none to none.
        self.assertEqual(self.told([("set", 0, "f", 1, END), ("drop", 0, "g", END)]), [])

    def test_told_shapes_in_order_each_once(self):
        watched = [("global", "g", NONE), ("holds", "n", ("o", ("a", "b"))), ("holds", "o", (None, ())),
                   ("slot", "n", "f", YES)]
        facts = [("kind", 0, "obj"), ("shape", 0, ("n", ("c",))), ("shape", 1, (None, ()))]
        rows = [
            ("check", ("kind", 0, "obj"), END),
            ("check", ("shape", 1, ("n", ("d",))), END),
            ("load", 2, 0, ("n", ("c", "e")), "e"),
            ("store", 0, ("o", ("a",)), "a", 1),
            ("grow", 0, ("o", ()), "a", 1),
            ("check", ("shape", 1, ("n", ("c",))), END),
        ]
        self.assertEqual(self.told(rows, facts, watched, [(1, [("shape", 0, ("o", ("z",)))])]), [
            ("o", ("a", "b")), (None, ()), ("n", ("c",)), ("o", ("z",)), ("n", ("d",)), ("n", ("c", "e")),
            ("o", ("a",)), ("o", ()),
        ])

    def test_shapes_with_the_same_fields_in_other_orders_and_roots(self):
        facts = [("shape", 0, ("n", ("a", "b"))), ("shape", 0, ("n", ("b", "a"))), ("shape", 0, (None, ("a", "b")))]
        self.assertEqual(self.told([], facts), [("n", ("a", "b")), ("n", ("b", "a")), (None, ("a", "b"))])

    def test_a_set_row_takes_the_last_field_away(self):
        rows = [("set", 0, "b", 1, END)]
        self.assertEqual(self.told(rows, [("shape", 0, ("n", ("a", "b")))]), [("n", ("a", "b")), ("n", ("a",))])
        self.assertEqual(self.told(rows, [("shape", 0, ("n", ("b", "a")))]), [("n", ("b", "a"))])
        self.assertEqual(self.told(rows, [("shape", 0, ("n", ("b",)))]), [("n", ("b",)), ("n", ())])
        self.assertEqual(self.told(rows, [("shape", 0, ("n", ()))]), [("n", ())])

    def test_one_round_for_each_set_and_drop_row(self):
        facts = [("shape", 0, (None, ("a", "b", "b2")))]
        sets = [("set", 0, "b2", 1, END), ("set", 0, "b", 1, END), ("set", 0, "a", 1, END)]
        whole = (None, ("a", "b", "b2"))
        self.assertEqual(self.told(sets[:1], facts), [whole, (None, ("a", "b"))])
        # The fields of all rows count in each round, whichever row it is for.
        self.assertEqual(self.told(sets[:2], facts), [whole, (None, ("a", "b")), (None, ("a",))])
        self.assertEqual(self.told(sets[1::-1], facts), [whole, (None, ("a", "b")), (None, ("a",))])
        self.assertEqual(self.told(sets, facts), [whole, (None, ("a", "b")), (None, ("a",)), (None, ())])
        self.assertEqual(self.told([sets[0]] * 2, facts), [whole, (None, ("a", "b"))])

    def test_a_drop_row_puts_its_field_in_at_each_position(self):
        facts = [("shape", 0, ("o", ("a", "b")))]
        self.assertEqual(self.told([("drop", 0, "d", END)], facts), [
            ("o", ("a", "b")), ("o", ("d", "a", "b")), ("o", ("a", "d", "b")), ("o", ("a", "b", "d")),
        ])
        self.assertEqual(self.told([("drop", 0, "a", END)], facts), [("o", ("a", "b"))])

    def test_several_drop_rows(self):
        facts = [("shape", 0, (None, ()))]
        rows = [("drop", 0, "e", END), ("drop", 1, "d", END)]
        self.assertEqual(self.told(rows, facts), [
            (None, ()), (None, ("e",)), (None, ("d",)),
            # The second round: from (e) and from (d), and nothing new from ().
            (None, ("d", "e")), (None, ("e", "d")),
        ])
        self.assertEqual(self.told([rows[0]] * 3, facts), [(None, ()), (None, ("e",))])

    def test_set_and_drop_in_one_round(self):
        facts = [("shape", 0, ("n", ("a",))), ("shape", 0, ("n", ("d",)))]
        rows = [("drop", 0, "d", END), ("set", 0, "a", 1, END)]
        self.assertEqual(self.told(rows, facts), [
            ("n", ("a",)), ("n", ("d",)),
            # From (a): without its last field, then with d. From (d): nothing, since its last field is not a.
            ("n", ()), ("n", ("d", "a")), ("n", ("a", "d")),
        ])

    def test_a_candidate_met_twice_stays_where_it_is(self):
        facts = [("shape", 0, ("n", ("a", "b"))), ("shape", 0, ("n", ("a",))), ("shape", 0, ("n", ()))]
        rows = [("set", 0, "b", 1, END), ("set", 0, "a", 1, END)]
        self.assertEqual(self.told(rows, facts), [("n", ("a", "b")), ("n", ("a",)), ("n", ())])

    def test_stores_and_growths_make_no_round(self):
        rows = [("store", 0, (None, ("a", "b")), "b", 1), ("grow", 0, (None, ("a",)), "b", 1)]
        self.assertEqual(self.told(rows), [(None, ("a", "b")), (None, ("a",))])

    def test_rows_of_all_pieces_count(self):
        rows = [("point", 0), ("stop", END), ("point", 1), ("set", 0, "b", 1, END), ("load", 2, 0, ("n", ("b",)), "b"),
                ("stop", END)]
        version = Version("main", ["n"], [], 8, rows, [(0, (), PIECE.places(0))] * 2)
        self.assertEqual(candidates(version), [("n", ("b",)), ("n", ())])

    def test_new_lists(self):
        version = PIECE.version([("stop", END)], [("shape", 0, (None, ("f",)))])
        first = candidates(version)
        self.assertIsInstance(first, list)
        first.clear()
        self.assertEqual(candidates(version), [(None, ("f",))])


class FirstKnown(unittest.TestCase):
    def test_nothing_but_what_is_always_there(self):
        version = PIECE.version([("stop", END)])
        self.assertEqual(first_known(PIECE.program, version, "err"), [("err", word) for word in ERRORS])
        self.assertEqual(first_known(PIECE.program, version, "fun"), [("fun", "main")])
        self.assertEqual(first_known(PIECE.program, version, "num"), [])
        self.assertEqual(first_known(PIECE.program, version, "col"), [])

    def test_plain_rows_of_all_functions(self):
        piece = Piece("fun main(a) {show #num:7; if a {show #col:3;} return !w1;} "
                      "fun z(x) {show #num:2; let y = #num:7; return &z;} fun b() {throw !a0; show #num:10;}")
        version = piece.version([("stop", piece.end(0, 0))])
        self.assertEqual(first_known(piece.program, version, "num"), [num(2), num(7), num(10)])
        self.assertEqual(first_known(piece.program, version, "col"), [("tok", "col", 3)])
        self.assertEqual(known(version, "err", piece.program), sorted(ERRORS + ["a0", "w1"]))
        # The functions of the program stand in its own order.
        self.assertEqual(known(version, "fun", piece.program), ["main", "z", "b"])

    def test_every_place_of_a_version(self):
        watched = [("global", "g", num(1)), ("slot", "n", "f", num(2)), ("global", "h", ("name", "n"))]
        facts = [("is", 0, num(3)), ("is", 1, ("name", "n"))]
        end = (0, (("main", 0, ((0, val(num(6))), (1, ("name", "n")))),))
        deep = (0, (("main", 0, ((0, val(num(7))), (1, val(num(8))))),))
        rows = [("const", 2, num(4)), ("const", 2, ("name", "n")), ("check", ("is", 0, num(5)), end), ("stop", deep)]
        version = PIECE.version(rows, facts, ["n"], watched)
        self.assertEqual(known(version, "num"), [1, 2, 3, 4, 5, 6, 7, 8])
        points = [(0, (), PIECE.places(0)), (1, (), PIECE.places(1, r0=val(num(9))))]
        rows = [("point", 0), ("link", 1, 1), ("point", 1), ("stop", END)]
        self.assertEqual(known(Version("main", [], [], 8, rows, points), "num"), [9])

    def test_ends_of_calls_too(self):
        piece = Piece("fun main(a) {let b = call a(); return b;}")
        end = (0, (("main", 0, ((0, val(("fun", "other"))),)),))
        version = piece.version([("call", 1, 0, (), end, 1)], points=[(1, ())])
        self.assertEqual(known(version, "fun", piece.program), ["main", "other"])

    def test_functions_that_the_program_lacks(self):
        rows = [("const", 2, ("fun", word)) for word in ("z", "main", "b2", "b")] + [("stop", END)]
        self.assertEqual(known(PIECE.version(rows), "fun"), ["main", "b", "b2", "z"])

    def test_each_value_once_by_number_and_by_word(self):
        marks = [num(10), num(9), num(10), ("err", "zz"), ("err", "object"), ("err", "a"), ("err", "zz"), YES, NO, NONE]
        version = PIECE.version([("const", 2, mark) for mark in marks] + [("stop", END)])
        self.assertEqual(known(version, "num"), [9, 10])
        self.assertEqual(known(version, "err"), sorted(ERRORS + ["a", "zz"]))

    def test_fields_that_look_like_values(self):
        shape = (None, ("err", "aaa"))
        rows = [("check", ("shape", 0, shape), END), ("load", 2, 0, ("fun", ("f",)), "f"), ("stop", END)]
        version = PIECE.version(rows, [("shape", 1, (None, ("fun", "bbb")))], ["fun"])
        self.assertEqual(known(version, "err"), ERRORS)
        self.assertEqual(known(version, "fun"), ["main"])

    def test_new_lists(self):
        version = PIECE.version([("stop", END)])
        first = first_known(PIECE.program, version, "err")
        self.assertIsInstance(first, list)
        first.clear()
        self.assertEqual(known(version, "err"), ERRORS)


if __name__ == "__main__":
    unittest.main()
