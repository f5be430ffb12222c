"""Right versions (S7.5); shapeguess/checking.py."""

import random
import re
import unittest

from samples import NONE, NO, STRANGE, WORD_OF_13, YES, Maker, ground, num, program_of
from shapeguess.checking import check_version
from shapeguess.errors import BadVersion
from shapeguess.quick import Version
from shapeguess.shapes import Shapes
from shapeguess.trees import Program
from slowversion import slow_version, with_part
from versionsample import (A, B, C, D, DEEP_END, INNER_END, POINTS, PROGRAM, ROOTLESS, ROWS, SHAPE, THREE, TWO, WATCHED,
                           end, sample)

# Three plain registers with places that are known at row 31 of the sample.
FOUR = ((0, A), (1, B), (2, D))
THINGS = STRANGE + (Shapes(), sample(), 100, ("a", "b"), ("reg", 0), ("name", "n"), [("reg", 0)], "main", "f")


def are_names(thing):
    """Whether something is a list, or a tuple, of different words."""
    if not isinstance(thing, (list, tuple)) or not all(isinstance(word, str) for word in thing):
        return False
    return len(set(thing)) == len(thing) and all(re.fullmatch("[a-z][a-z0-9]{0,11}", word) for word in thing)


class CheckTest(unittest.TestCase):
    def right(self, version, program=PROGRAM):
        self.assertIsNone(check_version(program, version))

    def wrong(self, place, version, program=PROGRAM):
        with self.assertRaises(BadVersion) as caught:
            check_version(program, version)
        self.assertEqual(caught.exception.place, place)
        self.assertFalse(any(part is True or part is False for part in caught.exception.place))

    def changed(self, place, **parts):
        """The sample with other parts is wrong at a place, or right if the place is None."""
        version = with_part(sample(), **parts)
        if place is None:
            self.right(version)
        else:
            self.wrong(place, version)

    def with_row(self, place, number, row):
        self.changed(place, rows=list(ROWS[:number]) + [row] + list(ROWS[number + 1:]))

    def with_point(self, place, k, point):
        self.changed(place, points=list(POINTS[:k]) + [point] + list(POINTS[k + 1:]))


class RightOnes(CheckTest):
    def test_the_sample(self):
        self.right(sample())
        self.right(Version("main", ("n", "o"), WATCHED, 10, ROWS, POINTS))

    def test_what_is_handed_in_stays(self):
        version = sample()
        check_version(PROGRAM, version)
        self.assertEqual(version, sample())

    def test_slow_versions(self):
        for seed in range(12):
            program = Program(ground(), Maker(seed).lively_functions())
            for function in program.names():
                self.right(slow_version(program, function), program)

    def test_a_version_without_registers(self):
        program = program_of("fun main() {while yes {}}")
        points = [(0, (), ())]
        self.right(Version("main", [], [], 0, [("point", 0), ("stop", (0, (("main", 0, ()),)))], points), program)
        self.wrong(("row", 1), Version("main", [], [], 0, [("point", 0), ("show", 0)], points), program)

    def test_greatest_numbers(self):
        self.changed(None, registers=10 ** 40)
        self.with_row(None, 14, ("const", 4, num(10 ** 40)))
        self.with_row(None, 11, ("return", 10 ** 40, 3))
        self.with_row(None, 31, ("stop", end(10 ** 40, 2)))


class Parts(CheckTest):
    def test_function(self):
        for thing in THINGS:
            if thing not in ("main", "f"):
                self.changed(("function",), function=thing)

    def test_names(self):
        for thing in THINGS:
            if not are_names(thing):
                self.changed(("names",), names=thing)
        for names in (["n", "n"], ["n", "o", "n"], ["n", "O"], ["n", None], ["n", WORD_OF_13], ["n", ["o"]], "no",
                      {"n": 1, "o": 2}, [("n",)], ["n", 1]):
            self.changed(("names",), names=names)
        self.changed(None, names=["o", "n", "p"])
        # The names must be those that are used.
        self.changed(("watched", 1), names=["o"])
        self.changed(("watched", 2), names=["n"])
        self.changed(("watched", 1), names=[])
        self.changed(("point", 0), names=["n"], watched=[])
        self.changed(("watched", 0), names=["a"], watched=[("global", "g", ("name", "n"))])

    def test_registers(self):
        for thing in THINGS + (-10 ** 40, [10], (10,), {}, "10"):
            if not isinstance(thing, int) or isinstance(thing, bool) or thing < 0:
                self.changed(("registers",), registers=thing)
        self.changed(("point", 0), registers=1)
        self.changed(("point", 1), registers=2)
        self.changed(("point", 4), registers=3)
        self.changed(("row", 14), registers=4)
        self.changed(("row", 23), registers=9)

    def test_watched(self):
        for thing in THINGS:
            if isinstance(thing, (list, tuple)):
                self.changed(("watched", 0) if len(thing) else None, watched=thing)
            else:
                self.changed(("watched", 0), watched=thing)
            self.changed(("watched", 1), watched=[WATCHED[0], thing])
        for fact in (("global", "g", ("tok", "far", 0)), ("global", "g", ("name", "p")), ("holds", "p", ROOTLESS),
                     ("holds", "n", ("p", ())), ("slot", "p", "f", NONE), ("slot", "n", "f", ("name", "p")),
                     ("kind", 0, "num"), ["global", "g", YES], ("global", "g", ("obj", 0)), ("global", "G", YES)):
            self.changed(("watched", 2), watched=[WATCHED[0], WATCHED[1], fact, None])

    def test_points_that_are_no_list(self):
        for thing in THINGS:
            self.changed(("point", 0), points=thing)
            self.with_point(("point", 2), 2, thing)
        self.changed(("point", 0), points=[])
        self.changed(("point", 0), points={0: POINTS[0]})

    def test_rows_that_are_no_list(self):
        for thing in THINGS:
            self.changed(("row", 0), rows=thing)
            for number in (0, 3, 34):
                self.with_row(("row", number), number, thing)
        self.changed(("row", 0), rows=[])
        self.changed(("row", 0), rows={0: ROWS[0]})

    def test_the_order(self):
        """Of two places that are wrong, the first one of the list is told."""
        changes = [
            (("function",), {"function": "far"}), (("names",), {"names": ["n", "o", "o"]}),
            (("registers",), {"registers": -1}), (("watched", 0), {"watched": [None]}),
            (("point", 4), {"points": list(POINTS[:4]) + [None]}),
        ]
        rows = [(("row", 34), 34, None), (("end", 31), 31, ("stop", None)), (("next", 0), 0, ("show", 0)),
                (("points", 2), 33, ("point", 2)), (("ring", 24), 24, ("jump", 24)), (("shared", 9), 6, ("jump", 9)),
                (("call", 4), 4, ("call", 2, 1, (0,), end(2, 2), 2)), (("read", 3), 3, ("show", 9))]
        for place, number, row in rows:
            self.with_row(place, number, row)
        for at, (place, parts) in enumerate(changes):
            self.changed(place, **parts)
            for later, more in changes[at + 1:]:
                self.changed(place, **{**more, **parts})
            for later, number, row in rows:
                self.changed(place, rows=list(ROWS[:number]) + [row] + list(ROWS[number + 1:]), **parts)
        for at, (place, number, row) in enumerate(rows):
            for later, other, more in rows[at + 1:]:
                if other != number:
                    both = list(ROWS)
                    both[number], both[other] = row, more
                    self.changed(place, rows=both)
        # And of one kind the first one.
        for number in (34, 12, 3):
            self.changed(("row", number), rows=list(ROWS[:number]) + [None] * (35 - number))
        self.changed(("point", 1), points=[POINTS[0], None, None])


class Points(CheckTest):
    def test_forms(self):
        row, facts, places = POINTS[0]
        for thing in THINGS:
            self.with_point(("point", 0), 0, (thing, facts, places))
            self.with_point(("point", 0), 0, (row, facts, thing))
            self.with_point(("point", 0), 0, (row, (thing,), places))
            self.with_point(("point", 0), 0, (row, facts, (thing, places[1])))
            self.with_point(("point", 0), 0, (row, facts, (places[0], thing)))
            self.with_point(("point", 0), 0, (row, facts, ((thing, A), places[1])))
            if thing not in (("reg", 0), ("name", "n")):
                self.with_point(("point", 0), 0, (row, (), ((0, thing), places[1])))
            if thing != ():
                self.with_point(("point", 0), 0, (row, thing, places))
        for point in ([row, facts, places], (row, list(facts), places), (row, facts, list(places)), (row, facts),
                      (row, facts, places, ()), (row, facts, (list(places[0]), places[1])),
                      (row, facts, ((0, ["reg", 0]), places[1])), (10, (), TWO), (-1, (), TWO), (False, (), TWO),
                      (row, facts, ((False, A), (1, B))), (row, facts, ((0, A), (True, B)))):
            self.with_point(("point", 0), 0, point)

    def test_facts(self):
        for fact in (("kind", 2, "obj"), ("same", 0, 2), ("unlike", 9, 0), ("kind", 10, "obj"), ("is", 0, ("name", "p")),
                     ("shape", 0, ("p", ())), ("kind", 0, "far"), ("is", 0, ("tok", "far", 0)), ("kind", True, "obj"),
                     ["kind", 0, "obj"], ("global", "g", NONE), ("holds", "n", ROOTLESS)):
            self.with_point(("point", 0), 0, (0, (("kind", 0, "obj"), fact), TWO))
        # A register that occurs only as the number of a plain register is none that the facts may name.
        self.with_point(("point", 3), 3, (2, (("kind", 1, "fun"),), POINTS[3][2]))
        self.with_point(None, 3, (2, (("kind", 0, "fun"),), POINTS[3][2]))
        self.with_point(None, 4, (7, (("is", 3, num(10 ** 40)), ("shape", 3, SHAPE)), ((3, D),)))

    def test_live_registers(self):
        for places in ((), TWO[:1], TWO[1:], THREE, TWO[::-1], TWO + TWO, ((0, A), (2, B)), ((0, A), (0, B)),
                       ((1, A), (2, B)), ((0, A), (1, B), (3, D))):
            self.with_point(("point", 0), 0, (0, (), places))
        for row in (1, 3, 5, 7, 8, 9):
            self.with_point(("point", 0), 0, (row, (), TWO))
        # A row of the version's function counts.
        self.changed(("point", 0), function="f")

    def test_places(self):
        for place in (("reg", 10), ("reg", -1), ("reg", True), ("reg", None), ("value", ("obj", 0)),
                      ("value", ("tok", "far", 0)), ("value", None), ("value", 0), ("name", "p"), ("name", None),
                      ("value", ("name", "n")), ("Reg", 0), ("Name", "n"), ("mark", "n"), ("", "o"), (None, 0), ("reg", 0, 0), ("reg",), "r", ("kind", 0)):
            self.with_point(("point", 0), 0, (0, (), ((0, place), (1, B))))
            self.with_point(("point", 0), 0, (0, (), ((0, A), (1, place))))
        # No quick register twice.
        self.with_point(("point", 0), 0, (0, (), ((0, A), (1, A))))
        self.with_point(("point", 1), 1, (3, (), ((0, A), (1, B), (2, A))))
        self.with_point(None, 3, (2, (), ((0, A), (1, ("name", "o")))))
        self.with_point(None, 3, (2, (), ((0, A), (1, ("value", num(99))))))
        self.with_point(None, 3, (2, (), ((0, A), (1, ("reg", 9)))))


# For each row of the sample: the members, without its word, end and point, by what they are.
ROLES = {
    "const": "qw", "move": "qq", "same": "qqq", "put": "gq", "show": "q", "point": "k", "load": "qqSf", "store": "qSfq",
    "grow": "qSfq", "variant": "qvA", "jump": "n", "test": "qn", "check": "F", "global": "qg", "get": "qqf",
    "set": "qfq", "drop": "qf", "new": "qq", "prim": "qpA", "stop": "", "link": "1k", "return": "nq", "call": "qqA",
    "method": "qqfA",
}
BAD = {
    "q": (10, 10 ** 40, (0,)), "w": (("name", "p"), ("obj", 0), ("tok", "far", 0), ("name", None), ["none"], "n"),
    "g": ("G", WORD_OF_13, ["g"]), "f": ("F", WORD_OF_13, ["f"]), "k": (5, 10 ** 40), "n": (-10 ** 40,), "1": (0, -3),
    "S": (("p", ("f", "g")), (None, ["f", "g"]), (None, ("f", "f", "g")), [None, ("f", "g")], (("name", "n"), ("f", "g"))),
    "v": ("add", "idle", "nowhere", ["addnum"], "num"), "p": ("addnum", "nowhere", ["add"]),
    "A": ([0, 1], (0, 10), (0, True), (None, 0), (0, (1,)), 0, "ab"),
    "F": (("kind", 10, "fun"), ("same", 0, 10), ("is", 0, ("name", "p")), ("shape", 0, ("p", ())), ("kind", 0, "far"),
          ("global", "g", YES), ("holds", "n", SHAPE), ["kind", 0, "fun"], ("is", 0, ("tok", "far", 1))),
}


class RowForms(CheckTest):
    def test_each_member_wrong_in_turn(self):
        seen = set()
        for number, row in enumerate(ROWS):
            word = row[0]
            seen.add(word)
            for at, role in enumerate(ROLES[word], 1):
                for thing in BAD[role] + (None, True, False, -1, "", "A", (), [], {}, Shapes(), ("a",), "a b"):
                    if role == "A" and thing == () and word == "prim":
                        continue
                    bent = row[:at] + (thing,) + row[at + 1:]
                    is_call = role == "A" and thing == () and word in ("call", "method")
                    place = ("call" if is_call else "row", number)
                    self.with_row(place, number, bent)
        self.assertEqual(seen, set(ROLES))

    def test_other_lengths_and_words(self):
        for number, row in enumerate(ROWS):
            for bent in (row[:-1], row + (row[-1],), row + (None,), list(row), (), (None,) + row[1:], ("",) + row[1:],
                         (list(row[:1]),) + row[1:], ("far",) + row[1:], (row[0].upper(),) + row[1:], (row,)):
                self.with_row(("row", number), number, bent)

    def test_fields_of_shapes(self):
        for f in ("h", "n", "o"):
            self.with_row(("row", 18), 18, ("load", 7, 0, SHAPE, f))
            self.with_row(("row", 19), 19, ("store", 0, SHAPE, f, 7))
            self.with_row(None, 20, ("grow", 0, SHAPE, f, 1))
        for f in ("f", "g"):
            self.with_row(None, 18, ("load", 7, 0, SHAPE, f))
            self.with_row(None, 19, ("store", 0, SHAPE, f, 7))
            self.with_row(("row", 20), 20, ("grow", 0, SHAPE, f, 1))
        self.with_row(("row", 18), 18, ("load", 7, 0, ROOTLESS, "f"))

    def test_arguments(self):
        for args in ((), (4,), (4, 4, 4)):
            self.with_row(("row", 21), 21, ("variant", 8, "addnum", args))
        self.with_row(None, 21, ("variant", 8, "negnum", (4,)))
        self.with_row(None, 21, ("variant", 8, "lessnum", (4, 0)))
        self.with_row(("row", 21), 21, ("variant", 8, "negnum", (4, 4)))
        # A prim has any number of them.
        for args in ((), (0,), (0, 1), (0, 1, 0, 1)):
            for p in ("add", "neg", "less", "idle"):
                self.with_row(None, 10, ("prim", 3, p, args, end(1, 6)))

    def test_numbers(self):
        self.with_row(("row", 32), 32, ("link", 0, 4))
        self.with_row(None, 32, ("link", 10 ** 40, 4))
        self.with_row(None, 11, ("return", 0, 3))
        # Rows that do not exist are no matter of the form.
        self.with_row(("next", 24), 24, ("jump", 35))
        self.with_row(("next", 24), 24, ("jump", 10 ** 40))
        self.with_row(("next", 22), 22, ("test", 6, 35))
        for row in (("link", 1, 5), ("point", 5), ("call", 2, 1, (0,), end(2, 2), 5), ("call", 2, 1, (0,), end(2, 2), -1)):
            self.with_row(("row", 4), 4, row)


class Ends(CheckTest):
    def bad_end(self, *ends):
        for told in ends:
            for number, row in enumerate(ROWS):
                if row[0] in ("check", "global", "get", "set", "drop", "new", "prim", "stop"):
                    if number in (1, 28, 31):
                        self.with_row(("end", number), number, row[:-1] + (told,))
                elif row[0] in ("call", "method"):
                    self.with_row(("end", number), number, row[:-2] + (told,) + row[-1:])

    def test_forms(self):
        self.bad_end(*THINGS)
        told = end(2, 2)
        self.bad_end(list(told), told[:1], told + (0,), (-1, told[1]), (True, told[1]), (None, told[1]), ("2", told[1]))
        self.bad_end((2, list(told[1])), (2, ()), (2, told[1][0]), (2, (list(told[1][0]),)), (2, (told[1][0][:2],)),
                     (2, (told[1][0] + (0,),)))
        for thing in THINGS:
            self.bad_end((2, thing), (2, (thing,)), (2, (("main", thing, TWO),)), (2, (("main", 2, thing),)),
                         (None if type(thing) is int else thing, told[1]), (2, (("main", 2, ((0, thing), (1, ("far", 0)))),)))
            if thing != "main":
                self.bad_end((2, ((thing, 2, TWO),)))
        for name in ("f", "far", "F", None):
            self.bad_end((2, ((name, 2, TWO),)))
        for row in (-1, 10, 1, 3, 5, 7, 8, True, None):
            self.bad_end((2, (("main", row, TWO),)))

    def test_each_row_with_an_end(self):
        for number, row in enumerate(ROWS):
            if row[0] in ("call", "method"):
                self.with_row(("end", number), number, row[:-2] + (None, row[-1]))
            elif ("main" in str(row)):
                self.with_row(("end", number), number, row[:-1] + (None,))
                self.with_row(("end", number), number, row[:-1] + ((0, ()),))

    def test_registers(self):
        for places in ((), TWO[:1], TWO[1:], THREE, TWO[::-1], ((0, A), (0, B)), ((0, A), (2, B)), ((False, A), (1, B)),
                       ((0, A), (True, B)), [(0, A), (1, B)], ([0, A], (1, B)), ((0, A), (1, B, B))):
            self.bad_end((2, (("main", 2, places),)))
        for place in (("reg", 10), ("reg", True), ("reg", -1), ("value", ("obj", 0)), ("value", ("tok", "far", 0)),
                      ("name", "p"), ("name", ["n"]), ("Name", "n"), ("kind", "n"), ("Value", NONE), ("value",), ["reg", 0], None):
            self.bad_end((2, (("main", 2, ((0, place), (1, B))),)))
        for place in (("value", NONE), ("value", num(99)), ("name", "o"), A, ("reg", 5)):
            # One quick register may be the place of two plain ones here.
            self.with_row(None, 31, ("stop", (0, (("main", 2, ((0, A), (1, place))),))))

    def test_frames(self):
        """Told frames but the last one wait, and tell what waits; the last one tells what is live."""
        waiting, inside = INNER_END[1]
        f0, f1 = ("f", 0, ((0, A),)), ("f", 1, ((0, A), (1, B)))
        for frames in ((waiting, inside), (waiting, f0), (waiting, f0, f1), (waiting, f0, f0, f1), DEEP_END[1],
                       (("main", 4, TWO), f1), (waiting, waiting, f1), (waiting, ("main", 1, FOUR)),
                       (("main", 2, TWO),), (("main", 1, FOUR),), (("main", 8, ()),),
                       (waiting, ("f", 3, ())), (waiting, ("f", 4, ((2, A),)))):
            self.with_row(None, 31, ("stop", (7, frames)))
        for frames in ((f1,), (f0, f1), (waiting, ("f", 1, ((0, A),))), (waiting, ("f", 0, ((0, A), (1, B)))),
                       (("main", 2, TWO[:1]), f1), (("main", 2, ()), f1), (("main", 2, THREE), f1),
                       (("main", 1, THREE), f1), (("main", 0, TWO), f1), (waiting, f1, f1), (waiting, f1, f0),
                       (waiting, ("far", 0, ())), (waiting, ("f", 5, ())), (waiting, None), (None, f1),
                       (("main", 2, TWO[::-1]), f1), (waiting, ("f", 3, ((0, A),)))):
            self.with_row(("end", 31), 31, ("stop", (7, frames)))

    def test_what_waits_is_not_what_is_live(self):
        # At row 0 of main, x and the temporary are live; when it waits, y is written and only x waits, if at all.
        program = program_of("fun main(x, y) {let y = call x(y); show x; return y;}")
        inner = ("main", 2, ((1, A),))
        points = [(0, (), ((0, A), (1, B)))]

        def stop(*frames):
            return Version("main", [], [], 2, [("point", 0), ("stop", (0, frames))], points)

        self.right(stop(("main", 0, ((0, A), (1, B)))), program)
        self.right(stop(("main", 0, ((0, A),)), inner), program)
        self.wrong(("end", 1), stop(("main", 0, ((0, A), (1, B))), inner), program)
        self.wrong(("end", 1), stop(("main", 0, ((0, A),))), program)


class Ways(CheckTest):
    def test_next(self):
        self.with_row(("next", 0), 0, ("show", 0))
        self.changed(("next", 0), rows=[("jump", 0)] + list(ROWS))
        # Followed by a point row, by nothing, by a row that does not exist.
        self.with_row(("next", 4), 4, ("show", 0))
        self.with_row(("next", 7), 7, ("show", 0))
        self.with_row(("next", 24), 24, ("jump", 33))
        self.with_row(("next", 24), 24, ("jump", 0))
        self.with_row(("next", 22), 22, ("test", 6, 8))
        self.with_row(("next", 32), 32, ("test", 6, 34))
        self.with_row(("next", 34), 34, ("show", 3))
        self.with_row(("next", 34), 34, ("test", 3, 34))
        self.changed(("next", 33), rows=list(ROWS[:34]) + [("point", 4)])
        self.changed(("next", 33), rows=list(ROWS[:33]) + [("point", 4)])
        # Also where nobody comes to the row.
        self.changed(("next", 35), rows=list(ROWS) + [("show", 0)])
        self.changed(("next", 35), rows=list(ROWS) + [("jump", 36)])
        self.changed(None, rows=list(ROWS) + [("stop", end(0, 2)), ("jump", 35)])
        self.changed(None, rows=list(ROWS) + [("jump", 36), ("stop", end(0, 2))])

    def test_points(self):
        self.changed(("points", 5), points=list(POINTS) + [POINTS[4]])
        self.with_row(("points", 2), 33, ("point", 2))
        self.with_row(("points", 0), 33, ("point", 0))
        self.changed(("points", 1), rows=list(ROWS) + [("point", 1), ("stop", end(0, 2))])
        self.changed(("points", 1), rows=[("point", 0), ("stop", end(0, 2))])

    def test_ring(self):
        self.with_row(("ring", 24), 24, ("jump", 24))
        self.with_row(("ring", 14), 24, ("jump", 14))
        self.with_row(("ring", 22), 22, ("test", 6, 22))
        self.with_row(("ring", 13), 30, ("test", 6, 13))
        # Where nobody comes to it.
        self.changed(("ring", 35), rows=list(ROWS) + [("jump", 36), ("jump", 35)])
        self.changed(("ring", 36), rows=list(ROWS) + [("stop", end(0, 2)), ("jump", 36)])

    def test_shared(self):
        self.with_row(("shared", 3), 6, ("jump", 3))
        self.with_row(("shared", 4), 6, ("jump", 4))
        self.with_row(("shared", 28), 9, ("jump", 28))
        # A row of no piece that leads into one is not shared.
        self.changed(None, rows=list(ROWS) + [("jump", 3)])
        self.changed(None, rows=list(ROWS[:4]) + [("stop", end(0, 2))] + list(ROWS[5:]))


class Calls(CheckTest):
    def bad_call(self, *rows):
        for row in rows:
            self.with_row(("call", 4), 4, row)

    def bad_method(self, *rows):
        for row in rows:
            self.with_row(("call", 7), 7, row)

    def test_the_plain_row(self):
        self.bad_call(("call", 2, 1, (0,), end(2, 0), 1), ("call", 2, 1, (0,), end(2, 6), 1),
                      ("call", 2, 1, (), end(2, 2), 1), ("call", 2, 1, (0, 0), end(2, 2), 1),
                      ("method", 2, 1, "m", (0,), end(2, 2), 1), ("call", 2, 1, (0,), end(2, 4), 2),
                      ("call", 2, 1, (0, 0, 0), end(2, 4), 2), ("call", 2, 1, (), end(2, 4), 2))
        # At a method row the object is the first argument.
        self.with_row(None, 4, ("call", 2, 1, (0, 1), end(2, 4), 2))
        self.bad_method(("method", 2, 0, "n", (1,), end(1, 4), 2), ("method", 2, 0, "m", (), end(1, 4), 2),
                        ("method", 2, 0, "m", (1, 1), end(1, 4), 2), ("method", 2, 0, "m", (1,), end(1, 2), 1),
                        ("method", 2, 0, "m", (1,), end(1, 6), 2), ("method", 2, 0, "m", (0, 1), end(1, 4), 2))

    def test_plain_rows_of_other_words(self):
        """Rows with as many members as a call or a method, in front of a point with which all else would fit."""
        program = program_of("fun main(a, b) {let c = add(a, b); let c = a.f; a.long = c; let c = a.long(); show c;}")
        # The rows: 0 prim 2 add (0, 1), 1 get 2 0 f, 2 set 0 long 2, 3 method 2 0 long (), 4 show 2.
        live = [((0, A), (1, B)), ((0, A),), ((0, A), (2, C)), ((0, A),), ((2, C),)]

        def version(row, at):
            told = (0, (("main", at, live[at]),))
            places = live[at + 1]
            rows = [("point", 0), row + (told, 1), ("point", 1), ("stop", (0, (("main", at + 1, places),)))]
            return Version("main", [], [], 4, rows, [(at, (), live[at]), (at + 1, (), places)])

        self.right(version(("method", 2, 0, "long", ()), 3), program)
        self.right(version(("call", 2, 0, (0,)), 3), program)
        for row, at in ((("call", 2, 0, (0, 1)), 0), (("method", 2, 0, "add", (0, 1)), 0), (("call", 3, 0, (0, 0)), 0),
                        (("call", 2, 0, (0,)), 1), (("method", 2, 0, "f", ()), 1), (("method", 2, 0, "f", (0,)), 1),
                        (("call", 2, 0, (0, 0)), 2), (("method", 2, 0, "long", ()), 2), (("call", 2, 0, ()), 3),
                        (("call", 2, 0, (0,) * 5), 3), (("call", 2, 0, (0,) * 4), 3), (("method", 2, 0, "f", ()), 3)):
            self.wrong(("call", 1), version(row, at), program)

    def test_one_told_frame(self):
        waiting, inside = INNER_END[1]
        f0 = ("f", 0, ((0, A),))
        self.bad_call(("call", 2, 1, (0,), INNER_END, 1), ("call", 2, 1, (0,), (2, (waiting, f0)), 1),
                      ("call", 2, 1, (0,), (2, (waiting, waiting)), 1))

    def test_the_point_behind(self):
        self.bad_call(("call", 2, 1, (0,), end(2, 2), 0), ("call", 2, 1, (0,), end(2, 2), 2),
                      ("call", 2, 1, (0,), end(2, 2), 3), ("call", 2, 1, (0,), end(2, 2), 4))
        self.bad_method(("method", 2, 0, "m", (1,), end(1, 4), 1), ("method", 2, 0, "m", (1,), end(1, 4), 0))

    def test_the_facts_of_the_point(self):
        for fact in (("shape", 0, SHAPE), ("kind", 2, "obj"), ("is", 2, NONE), ("same", 2, 0), ("unlike", 0, 2),
                     ("same", 2, 2)):
            for facts in ((fact,), (("kind", 0, "obj"), fact)):
                self.with_point(("call", 4), 1, (3, facts, THREE))
                self.with_point(("call", 7), 2, (5, facts, THREE))
        for fact in (("kind", 0, "obj"), ("is", 1, NONE), ("same", 1, 0), ("unlike", 0, 1)):
            self.with_point(None, 2, (5, (fact,), THREE))

    def test_the_places_of_the_point(self):
        # The result register has the place q.
        self.with_point(("call", 4), 1, (3, (), ((0, A), (1, B), (2, D))))
        self.with_point(("call", 4), 1, (3, (), ((0, A), (1, B), (2, ("value", NONE)))))
        self.with_row(("call", 4), 4, ("call", 3, 1, (0,), end(2, 2), 1))
        # Each other one has the place that the end tells.
        self.with_point(("call", 4), 1, (3, (), ((0, A), (1, D), (2, C))))
        self.with_point(("call", 4), 1, (3, (), ((0, B), (1, A), (2, C))))
        self.with_point(("call", 4), 1, (3, (), ((0, A), (1, ("value", ("fun", "f"))), (2, C))))
        told = ((0, A), (1, ("value", ("fun", "f"))))
        self.with_row(("call", 4), 4, ("call", 2, 1, (0,), end(2, 2, told), 1))
        rows, points = list(ROWS), list(POINTS)
        rows[4], rows[6], rows[7] = ("call", 2, 1, (0,), end(2, 2, told), 1), ("const", 1, NONE), ("stop", end(0, 2))
        points[1] = (3, (), told + ((2, C),))
        self.changed(None, rows=rows, points=points)
        # And not q itself.
        rows[4] = ("call", 0, 1, (0,), end(2, 2), 1)
        points[1] = (3, (), ((0, A), (1, B), (2, C)))
        self.changed(("call", 4), rows=rows, points=points)
        rows[4] = ("call", 1, 0, (0,), end(2, 2), 1)
        self.changed(("call", 4), rows=rows, points=points)

    def test_a_result_that_is_not_live(self):
        program = program_of("fun main(x) {call x(); return x;}")
        told = (0, (("main", 0, ((0, A),)),))
        points = [(0, (), ((0, A),)), (1, (), ((0, A),))]

        def version(q, behind=1):
            rows = [("point", 0), ("call", q, 0, (), told, behind), ("point", 1), ("return", 0, 0)]
            return Version("main", [], [], 3, rows, points)

        for q in (1, 2):
            self.right(version(q), program)
        self.wrong(("call", 1), version(0), program)
        self.wrong(("call", 1), version(1, 0), program)

    def test_calls_that_nobody_comes_to(self):
        dead = [("call", 2, 1, (0,), end(2, 2), 2)]
        self.changed(("call", 35), rows=list(ROWS) + dead)


class Reads(CheckTest):
    def reads(self, place, number, row):
        self.with_row(place, number, row)

    def test_each_member_that_is_read(self):
        bad = ("reg", 9)
        rows = (
            (3, ("show", 9)), (3, ("move", 2, 9)), (3, ("same", 4, 9, 0)), (3, ("same", 4, 0, 9)), (3, ("put", "g", 9)),
            (3, ("load", 4, 9, SHAPE, "f")), (3, ("store", 9, SHAPE, "f", 0)), (3, ("store", 0, SHAPE, "f", 9)),
            (3, ("grow", 9, ROOTLESS, "f", 0)), (3, ("grow", 0, ROOTLESS, "f", 9)), (3, ("variant", 4, "negnum", (9,))),
            (3, ("variant", 4, "addnum", (0, 9))), (3, ("test", 9, 4)), (3, ("check", ("kind", 9, "num"), end(0, 0))),
            (3, ("check", ("same", 0, 9), end(0, 0))), (3, ("check", ("unlike", 9, 0), end(0, 0))),
            (3, ("get", 4, 9, "f", end(0, 0))), (3, ("set", 9, "f", 0, end(0, 0))), (3, ("set", 0, "f", 9, end(0, 0))),
            (3, ("drop", 9, "f", end(0, 0))), (3, ("new", 4, 9, end(0, 0))), (3, ("prim", 4, "add", (0, 9), end(0, 0))),
            (11, ("return", 2, 9)), (4, ("call", 2, 9, (0,), end(2, 2), 1)), (4, ("call", 2, 1, (9,), end(2, 2), 1)),
            (7, ("method", 2, 9, "m", (1,), end(1, 4), 2)), (7, ("method", 2, 0, "m", (9,), end(1, 4), 2)),
            # The places of ends count, of each frame.
            (31, ("stop", end(0, 2, ((0, A), (1, ("reg", 2)))))), (3, ("global", 4, "g", end(0, 0, ((0, A), (1, bad))))),
            (3, ("check", ("kind", 0, "num"), (0, (("main", 2, ((0, bad), (1, B))), ("f", 0, ((0, A),)))))),
            (3, ("check", ("kind", 0, "num"), (0, (("main", 2, TWO), ("f", 0, ((0, bad),)))))),
            # And those of the point of a link.
            (31, ("link", 1, 2)), (31, ("link", 1, 1)),
        )
        for number, row in rows:
            self.reads(("read", number), number, row)

    def test_registers_that_are_written_do_not_count_as_read(self):
        for row in (("const", 9, NONE), ("move", 9, 0), ("same", 9, 0, 1), ("load", 9, 0, SHAPE, "f"),
                    ("variant", 9, "negnum", (0,)), ("global", 9, "g", end(0, 0)), ("get", 9, 0, "f", end(0, 0)),
                    ("new", 9, 0, end(0, 0)), ("prim", 9, "neg", (0,), end(0, 0))):
            self.reads(None, 3, row)
            # What the row writes may be read behind it, but not by the row itself.
            rows = list(ROWS)
            rows[2:4] = [row, ("show", 9)]
            self.changed(None, rows=rows)
            rows[2:4] = [("show", 9), row]
            self.changed(("read", 2), rows=rows)
        for row in (("move", 9, 9), ("same", 9, 9, 0), ("load", 9, 9, SHAPE, "f"), ("variant", 9, "negnum", (9,)),
                    ("get", 9, 9, "f", end(0, 0)), ("new", 9, 9, end(0, 0)), ("prim", 9, "neg", (9,), end(0, 0))):
            self.reads(("read", 3), 3, row)

    def test_on_every_way(self):
        # Register 9 is written on both ways at rows 23 and 26, and read at 27 and 28.
        self.with_row(("read", 27), 23, ("show", 0))
        self.with_row(("read", 27), 26, ("show", 0))
        self.with_row(None, 26, ("const", 9, NONE))
        self.with_row(("read", 27), 22, ("test", 6, 27))
        # Register 3, which the link reads at row 32, is written at row 29.
        self.with_row(("read", 32), 29, ("show", 0))
        self.with_row(("read", 32), 28, ("jump", 32))
        self.with_row(None, 28, ("jump", 29))

    def test_ways_against_the_order_of_rows(self):
        points = [(2, (), TWO)]

        def version(*rows):
            return Version("main", [], [], 6, [("point", 0)] + list(rows), points)

        stop = ("stop", end(0, 2))
        # 1 jumps to 4, which writes 5 and jumps back to 2, which reads it.
        self.right(version(("jump", 4), ("show", 5), stop, ("const", 5, NONE), ("jump", 2)))
        self.wrong(("read", 2), version(("jump", 4), ("show", 5), stop, ("const", 4, NONE), ("jump", 2)))
        # Two ways to row 2: one by 5, which writes, and one by 6, which does not.
        self.wrong(("read", 2), version(("jump", 4), ("show", 5), stop, ("test", 0, 7), ("const", 5, NONE), ("jump", 2),
                                        ("const", 4, NONE), ("jump", 2)))
        self.right(version(("jump", 4), ("show", 5), stop, ("test", 0, 7), ("const", 5, NONE), ("jump", 2),
                           ("const", 5, NONE), ("jump", 2)))
        # A test with both ways to one row.
        self.right(version(("test", 0, 2), ("const", 5, NONE), ("show", 5), stop))

    def test_places_of_the_point(self):
        # What is no place of the point is not known there, whatever number it has.
        self.with_row(("read", 13), 13, ("show", 1))
        self.with_row(None, 9, ("show", 0))
        # The result of a call counts as written for the point behind it.
        self.with_row(None, 6, ("show", 2))

    def test_rows_that_belong_to_no_piece(self):
        self.changed(None, rows=list(ROWS) + [("show", 9), ("return", 0, 8)])

    def test_the_first_one_of_all_pieces(self):
        rows = list(ROWS)
        rows[9], rows[3], rows[6] = ("show", 9), ("show", 8), ("show", 7)
        self.changed(("read", 3), rows=rows)
        # Pieces whose rows stand the other way round.
        version = Version("main", [], [], 6, [("point", 1), ("show", 4), ("stop", end(0, 2)), ("point", 0), ("show", 5),
                                              ("stop", end(0, 2))], [(2, (), TWO), (4, (), TWO)])
        self.wrong(("read", 1), version)

    def test_a_call_reads_what_the_point_behind_it_tells(self):
        # The end and the point agree in places that nothing has written.
        told = ((0, ("reg", 8)), (1, B))
        rows, points = list(ROWS), list(POINTS)
        rows[4] = ("call", 2, 1, (1,), end(2, 2, told), 1)
        points[1] = (3, (), told + ((2, C),))
        rows[6], rows[7] = ("show", 8), ("stop", end(0, 2, told))
        self.changed(("read", 4), rows=rows, points=points)
        rows[3] = ("const", 8, NONE)
        self.changed(None, rows=rows, points=points)


class Anything(CheckTest):
    def test_drawn_changes_raise_nothing_else(self):
        """A part somewhere is replaced by something else: the version is right, or BadVersion is raised."""
        drawn = random.Random(6)
        counts = {}
        for _ in range(3000):
            rows, points, watched = replace(drawn, ROWS), POINTS, WATCHED
            word = drawn.choice(("rows", "points", "watched", "rows"))
            if word != "rows":
                rows = ROWS
            if word == "points":
                points = replace(drawn, POINTS)
            elif word == "watched":
                watched = replace(drawn, WATCHED)
            try:
                check_version(PROGRAM, Version("main", ["n", "o"], watched, 10, rows, points))
                place = "right"
            except BadVersion as error:
                place = error.place[0]
            counts[place] = counts.get(place, 0) + 1
        self.assertTrue({"right", "row", "point", "watched", "end"} <= set(counts), counts)


def replace(drawn, part):
    """Replace a part somewhere inside a tuple."""
    if not isinstance(part, tuple) or not part or drawn.randint(0, 6) == 0:
        return drawn.choice(THINGS + (0, 1, 2, NONE, NO, "n", "g", TWO, A))
    at = drawn.randrange(len(part))
    return part[:at] + (replace(drawn, part[at]),) + part[at + 1:]


if __name__ == "__main__":
    unittest.main()
