"""Deciding, starts that show what is not closed, and rows that can go back (S8.8 to S8.10); shapeguess/deciding.py."""

import time
import unittest

from drawnversions import VersionMaker
from pieces import S0, Piece, val
from samples import NO, NONE, YES, Maker, ground, num
from shapeguess.books import Book
from shapeguess.deciding import decide, decide_point, goes_back, is_closed
from shapeguess.papers import first_wrong, judge_papers
from shapeguess.points import entered
from shapeguess.quick import Version, end_of, piece
from shapeguess.quickrun import quick_run, run_path
from shapeguess.rebuilding import held_of
from shapeguess.slow import slow
from shapeguess.starts import judge_start
from shapeguess.states import State
from shapeguess.trees import Program
from slowversion import slow_version, with_part
from startmodel import Answering, StartMaker

EVERY_ROW = Piece(
    "fun main(a, b) {let c = #num:1; let c = a; $g = a; show $g; let c = a.f; a.f = b; drop a.f; let c = new(a); "
    "let c = add(a, b); let c = less(a, #num:2); let c = a == b; let c = call a(b); let c = a.m(b); if a {show b;} "
    "while b {let b = a;} try {throw c;} catch e {show e;} return a;} fun f(x) {return x;}"
)


def size(paper):
    """The number of the nodes of a paper, and how deep they are nested."""
    if paper[0] != "ask":
        return 1, 1
    inside = [size(node) for node in paper[2]]
    return 1 + sum(many for many, _ in inside), 1 + max(deep for _, deep in inside)


class DecideTest(unittest.TestCase):
    def decided(self, program, version, k):
        """What decide_point tells of a point, whose support is examined."""
        told = decide_point(program, version, k)
        self.assertIsInstance(told, tuple)
        if told[0] == "closed":
            self.assertEqual(len(told), 2)
            self.assertIsNone(first_wrong(program, version, k, told[1]))
            many, deep = size(told[1])
            self.assertTrue(many <= 5000 and deep <= 300)
        else:
            self.shows(program, version, k, told)
        return told[0]

    def shows(self, program, version, k, told):
        word, book, state, objects = told
        self.assertEqual(word, "open")
        self.assertTrue(isinstance(book, Book) and isinstance(state, State) and isinstance(objects, list))
        self.assertIsNone(judge_start(program, version, k, book, state, objects))

    def versions(self, piece, version, expected):
        """Which of the points of a version are closed, and that decide and is_closed say the same."""
        words = [self.decided(piece.program, version, k) for k in range(len(version.points()))]
        self.assertEqual([word == "closed" for word in words], list(expected))
        told = decide(piece.program, version)
        self.assertEqual(is_closed(piece.program, version), all(expected))
        if all(expected):
            self.assertEqual(told[0], "closed")
            self.assertIsInstance(told[1], list)
            self.assertIsNone(judge_papers(piece.program, version, told[1]))
        else:
            self.assertEqual(told[1], words.index("open"))
            self.shows(piece.program, version, told[1], told[:1] + told[2:])

    def point(self, expected, piece, version, k=0):
        self.assertEqual(self.decided(piece.program, version, k), expected)


class SlowVersions(DecideTest):
    def test_each_kind_of_row_is_closed(self):
        rows = {row[0] for row in EVERY_ROW.code.rows()}
        self.assertEqual(len(rows), 17)
        version = slow_version(EVERY_ROW.program, "main")
        self.versions(EVERY_ROW, version, [True] * len(version.points()))

    def test_each_kind_of_row_bent(self):
        """One point after the other is not closed any more if its piece does a little less, more or something else."""
        version = slow_version(EVERY_ROW.program, "main")
        rows = version.rows()
        seen = set()
        for number, row in enumerate(rows):
            if row[0] in ("link", "return"):
                k = [at for at in range(len(version.points())) if number in piece(version, at)][0]
                bent = rows[:number] + [(row[0], row[1] + 1) + row[2:]] + rows[number + 1:]
                self.point("open", EVERY_ROW, with_part(version, rows=bent), k)
                seen.add(EVERY_ROW.code.row(k)[0])
        self.assertEqual(len(seen), 14)
        for number, row in enumerate(rows):
            end = end_of(row)
            if end is not None and row[0] != "check":
                k = [at for at in range(len(version.points())) if number in piece(version, at)][0]
                steps = tuple((1, end[1]) if member is end else member for member in row)
                bent = rows[:number] + [steps] + rows[number + 1:]
                self.point("open", EVERY_ROW, with_part(version, rows=bent), k)

    def test_drawn_programs(self):
        points = 0
        for seed in range(3):
            program = Program(ground(), Maker(seed).functions())
            for name in program.names():
                version = slow(program, name)
                self.assertEqual(decide(program, version)[0], "closed")
                points += len(version.points())
        self.assertGreater(points, 300)


class OneThingOff(DecideTest):
    """Closed versions with a row of each kind, and the same with one row otherwise than it should be."""

    def pair(self, piece, good, bad, **more):
        self.point("closed", piece, piece.version(good, **more))
        self.point("open", piece, piece.version(bad, **more))

    def test_counts(self):
        piece = Piece("fun main(a) {let b = a.f; show b; return b;}")
        get = ("get", 1, 0, "f", piece.end(0, 0))
        self.pair(piece, [get, ("show", 1), ("link", 2, 1)], [get, ("show", 1), ("link", 1, 1)], points=[(2, ())])
        self.pair(piece, [get, ("show", 1), ("return", 2, 1)], [get, ("show", 1), ("return", 3, 1)])
        self.pair(piece, [get, ("stop", piece.end(1, 1))], [get, ("stop", piece.end(0, 1))])
        self.pair(piece, [get, ("stop", piece.end(1, 1))], [("get", 1, 0, "f", piece.end(1, 0)),
                                                            ("stop", piece.end(1, 1))])

    def test_registers(self):
        piece = Piece("fun main(a, b) {let c = a; show c; show b; return c;}")
        self.pair(piece, [("move", 2, 0), ("show", 2), ("link", 2, 1)], [("move", 2, 1), ("show", 2), ("link", 2, 1)],
                  points=[(2, ())])
        self.pair(piece, [("move", 2, 0), ("show", 2), ("stop", piece.end(2, 2))],
                  [("move", 2, 0), ("show", 2), ("stop", piece.end(2, 2, r2=("reg", 1)))])
        self.pair(piece, [("move", 2, 0), ("show", 0), ("link", 2, 1)], [("move", 2, 0), ("show", 1), ("link", 2, 1)],
                  points=[(2, ())])

    def test_places(self):
        piece = Piece("fun main(a, b) {show a; return b;}")
        for place, word in ((val(num(3)), "closed"), (val(num(4)), "open"), (("reg", 1), "closed"),
                            (("reg", 0), "open"),
                            (("name", "n"), "open")):
            version = piece.version([("show", 0), ("stop", piece.end(1, 1, r1=place))], [("is", 1, num(3))], ["n"])
            self.point(word, piece, version)

    def test_fields(self):
        piece = Piece("fun main(a, b) {a.f = b; let c = a.g; return c;}")
        back, later = piece.end(0, 0), piece.end(1, 1)
        good = [("set", 0, "f", 1, back), ("get", 2, 0, "g", later), ("return", 2, 2)]
        self.pair(piece, good, [("set", 0, "h", 1, back)] + good[1:])
        self.pair(piece, good, good[:1] + [("get", 2, 0, "f", later)] + good[2:])
        self.pair(piece, good, good[:1] + [("get", 2, 0, "g", back)] + good[2:])
        self.pair(piece, good, good[1:2] + good[:1] + good[2:])

    def test_checks_left_out(self):
        piece = Piece("fun main(a, b) {let c = add(a, b); a.f = c; return c;}")
        back = piece.end(0, 0)
        checks = [("check", ("kind", 0, "num"), back), ("check", ("kind", 1, "num"), back)]
        rest = [("variant", 2, "addnum", (0, 1)), ("link", 1, 1)]
        self.pair(piece, checks + rest, checks[1:] + rest, points=[(1, ())])
        self.pair(piece, checks + rest, checks[:1] + rest, points=[(1, ())])
        shape = ("n", ("f",))
        check = ("check", ("shape", 0, shape), piece.end(0, 1))
        store = [("store", 0, shape, "f", 2), ("link", 1, 1)]
        self.pair(piece, [check] + store, store, points=[(2, ())], at=1, names=["n"])
        grow = [("check", ("shape", 0, (None, ())), piece.end(0, 1)), ("grow", 0, (None, ()), "f", 2), ("link", 1, 1)]
        self.pair(piece, grow, grow[1:], points=[(2, ())], at=1)
        piece = Piece("fun main(a) {let b = a.f; return b;}")
        load = [("check", ("shape", 0, shape), piece.end(0, 0)), ("load", 1, 0, shape, "f"), ("link", 1, 1)]
        self.pair(piece, load, load[1:], points=[(1, ())], names=["n"])
        piece = Piece("fun main(a) {if a {show a;} return a;}")
        test = [("check", ("kind", 0, "bit"), piece.end(0, 0)), ("test", 0, 4), ("link", 1, 1), ("link", 1, 2)]
        self.pair(piece, test, [("test", 0, 3)] + test[2:], points=[(1, ()), (2, ())])
        self.point("closed", piece, piece.version([("test", 0, 3)] + test[2:], [("kind", 0, "bit")],
                                                  points=[(1, ()), (2, ())]))

    def test_facts_too_many(self):
        piece = Piece("fun main(a, b) {show a; return b;}")
        for facts, told in (((), ("kind", 1, "num")), ([("kind", 1, "num")], ("is", 1, num(3))),
                            ([("kind", 1, "obj")], ("shape", 1, (None, ())))):
            rows = [("show", 0), ("link", 1, 1)]
            self.point("closed", piece, piece.version(rows, facts, points=[(1, facts)]))
            self.point("open", piece, piece.version(rows, facts, points=[(1, list(facts) + [told])]))

    def test_facts_that_let_it_be_closed(self):
        piece = Piece("fun main(a, b) {let c = a == b; return c;}")
        no = [("const", 2, NO), ("link", 1, 1)]
        yes = [("const", 2, YES), ("link", 1, 1)]
        for facts, one, other in (([("unlike", 0, 1)], "closed", "open"), ([("same", 0, 1)], "open", "closed"),
                                  ((), "open", "open"),
                                  ([("kind", 0, "num"), ("kind", 1, "obj")], "closed", "open"),
                                  ([("is", 0, YES), ("is", 1, YES)], "open", "closed"),
                                  ([("unlike", 0, 1), ("same", 1, 0)], "closed", "closed"),
                                  ([("is", 0, YES), ("kind", 1, "bit"), ("unlike", 1, 0)], "closed", "open")):
            self.point(one, piece, piece.version(no, facts, points=[(1, ())]))
            self.point(other, piece, piece.version(yes, facts, points=[(1, ())]))

    def test_watched_facts_that_let_it_be_closed(self):
        piece = Piece("fun main(a) {let b = $g; let c = a.m(b); return c;} fun f(s, x) {return x;}")
        guess = [("const", 1, YES), ("link", 1, 1)]
        for watched, word in (([("global", "g", YES)], "closed"), ([("global", "h", YES)], "open"),
                              ([("global", "g", NO)], "open")):
            self.point(word, piece, piece.version(guess, watched=watched, points=[(1, ())]))
        check = ("check", ("shape", 0, ("n", ())), piece.end(0, 1))
        called = [check, ("const", 4, ("fun", "f")), ("call", 2, 4, (0, 1), piece.end(0, 1), 1)]
        holds, slot = ("holds", "n", (None, ("m",))), ("slot", "n", "m", ("fun", "f"))
        for watched, word in (([holds, slot], "closed"), ([holds], "open"), ([slot], "closed"), ([], "open")):
            self.point(word, piece, piece.version(called, names=["n"], watched=watched, points=[(2, ())], at=1))

    def test_calls(self):
        piece = Piece("fun main(a, b) {let c = call a(b); return c;} fun f(x) {return x;}")
        check, const = ("check", ("is", 0, ("fun", "f")), piece.end(0, 0)), ("const", 3, ("fun", "f"))
        call = ("call", 2, 3, (1,), piece.end(0, 0), 1)
        self.pair(piece, [check, const, call], [const, call], points=[(1, ())])
        self.pair(piece, [check, const, call], [check, const, ("call", 2, 3, (0,), piece.end(0, 0), 1)],
                  points=[(1, ())])
        self.pair(piece, [check, const, call], [check, const, ("call", 2, 3, (1,), piece.end(1, 0), 1)],
                  points=[(1, ())])

    def test_globals_objects_and_shown_values(self):
        piece = Piece("fun main(a, b) {$g = a; drop b.f; let c = new(b); show c; return c;}")
        end = [piece.end(at, at) for at in range(5)]
        good = [("put", "g", 0), ("drop", 1, "f", end[1]), ("new", 2, 1, end[2]), ("show", 2), ("return", 4, 2)]
        for at in (0, 1, 3):
            self.pair(piece, good, good[:at] + good[at + 1:])
        self.pair(piece, good, [("put", "h", 0)] + good[1:])
        self.pair(piece, good, [("put", "g", 1)] + good[1:])
        self.pair(piece, good, good[:1] + [("drop", 1, "g", end[1])] + good[2:])
        self.pair(piece, good, good[:2] + [("new", 2, 0, end[2])] + good[3:])
        self.pair(piece, good, good[:4] + [("return", 4, 1)])
        self.pair(piece, good, good[:3] + [("new", 3, 1, end[2]), ("show", 3), ("return", 4, 2)])

    def test_least_open_point(self):
        piece = Piece("fun main(a) {show a; show a; show a; return a;}")
        rows = [("show", 0), ("link", 1, 1)]
        version = piece.version(rows, points=[(1, ()), (2, ()), (3, ())])
        every = version.rows()
        self.versions(piece, version, [True] * 4)
        wrong = ("stop", piece.end(1, 0))
        for places, expected in (((6, 8), (True, True, False, False)), ((4,), (True, False, True, True)),
                                 ((8,), (True, True, True, False))):
            bent = [wrong if at in places else row for at, row in enumerate(every)]
            self.versions(piece, with_part(version, rows=bent), expected)

    def test_books_that_the_starts_need(self):
        """What primitives give must be told apart by the tables of the book."""
        piece = Piece("fun main(a, b) {let c = neg(add(a, b)); let d = neg(add(b, a)); show less(c, d); show c == d; return c;}")
        variants = [("check", ("kind", q, "num"), piece.end(0, 0)) for q in (0, 1)]
        variants += [("variant", 4, "addnum", (0, 1)), ("variant", 4, "negnum", (4,))]
        for q, word in ((4, "closed"), (5, "open"), (1, "open")):
            rows = variants + [("variant", 5, "addnum", (1, 0)), ("variant", 5, "negnum", (5,)), ("move", 2, q)]
            version = piece.version(rows + [("stop", piece.end(2, 2, r2=("reg", 2)))], more=6)
            self.assertIn(2, [r for r, _ in piece.places(2)])
            self.point(word, piece, version)

    def test_questions_about_results_of_primitives(self):
        """Where a test depends on what a primitive gives, this is asked, also for primitives within one another."""
        piece = Piece("fun main(a, b) {if less(add(a, b), b) {show a;} return b;}")
        self.assertEqual([row[0] for row in piece.code.rows()][:4], ["prim", "prim", "test", "show"])
        rows = [("check", ("kind", q, "num"), piece.end(0, 0)) for q in (0, 1)]
        rows += [("variant", 4, "addnum", (0, 1)), ("variant", 4, "lessnum", (4, 1)), ("test", 4, 7), ("link", 3, 1),
                 ("link", 3, 2)]
        version = piece.version(rows, points=[(3, ()), (4, ())])
        self.point("closed", piece, version)
        term = ("variant", "lessnum", (("variant", "addnum", (S0, ("start", 1))), ("start", 1)))
        self.assertIn(repr(("bit", term)), repr(decide_point(piece.program, version, 0)))
        turned = piece.version(rows[:5] + [rows[6], rows[5]], points=[(3, ()), (4, ())])
        self.point("open", piece, turned)
        self.point("open", piece, piece.version(rows[:3] + [("variant", 4, "lessnum", (1, 4))] + rows[4:],
                                                points=[(3, ()), (4, ())]))

    def test_starts_with_several_objects(self):
        """What one object has, another one has not."""
        piece = Piece("fun main(a, b) {let c = a.f; let d = b.f; show d; return c;}")
        end = piece.end(0, 0)
        for one, other, word in (("f", "f", "closed"), ("f", "g", "open"), ("g", "f", "open")):
            rows = [("get", 2, 0, one, end), ("get", 3, 1, other, piece.end(1, 1)), ("link", 2, 1)]
            self.point(word, piece, piece.version(rows, points=[(2, ())]))
        # Where a has the field and b has it not, the get of b tells an end to which the plain run does not come.
        rows = [("get", 2, 0, "f", end), ("get", 3, 1, "f", piece.end(2, 2, r3=("reg", 2))), ("link", 2, 1)]
        self.point("open", piece, piece.version(rows, points=[(2, ())]))
        # A get changes nothing, so that it may be made again.
        rows = [("get", 2, 0, "f", end), ("get", 3, 1, "f", end), ("link", 2, 1)]
        self.point("closed", piece, piece.version(rows, points=[(2, ())]))

    def test_starts_where_places_are_names_and_values(self):
        piece = Piece("fun main(a, b, c) {show a; show b; show c; return a;}")
        places = ((0, ("name", "n")), (1, val(num(4))), (2, ("reg", 3)))
        end = (1, (("main", 1, places),))
        for rows, word in (([("const", 4, ("name", "n")), ("show", 4), ("stop", end)], "closed"),
                           ([("show", 3), ("stop", end)], "open"),
                           ([("const", 4, num(4)), ("show", 4), ("stop", end)], "open")):
            version = Version("main", ["n"], [], 6, [("point", 0)] + rows, [(0, (), places)])
            self.point(word, piece, version)

    def test_impossible_points_are_closed(self):
        piece = Piece("fun main(a) {show a; return a;}")
        stuck = [("const", 1, NONE), ("test", 1, 3), ("stop", piece.end(0, 0))]
        self.point("open", piece, piece.version(stuck))
        self.point("closed", piece, piece.version(stuck, [("kind", 0, "num"), ("kind", 0, "obj")]))
        self.assertEqual(decide_point(piece.program, piece.version(stuck, [("unlike", 0, 0)]), 0),
                         ("closed", ("impossible",)))
        self.point("closed", piece, piece.version(stuck, [("unlike", 0, 0)]))

    def test_objects_above(self):
        piece = Piece("fun main(a) {let b = new(a); return b;}")
        new = ("new", 1, 0, piece.end(0, 0))
        self.pair(piece, [new, ("link", 1, 1)], [("const", 2, NONE), ("new", 1, 2, piece.end(0, 0)), ("link", 1, 1)],
                  points=[(1, ())])
        watched = [("holds", "n", ("o", ())), ("holds", "o", (None, ()))]
        facts = [("is", 0, ("name", "n"))]
        self.point("closed", piece, piece.version([new, ("link", 1, 1)], facts, ["n", "o"], watched, [(1, ())]))


class Drawn(DecideTest):
    def test_drawn_versions_and_bent_ones(self):
        words = {"closed": 0, "open": 0}
        for seed in range(25):
            maker = VersionMaker(seed)
            program = maker.program()
            version = maker.guessing(program, 15)
            for _ in range(4):
                for k in range(len(version.points())):
                    words[self.decided(program, version, k)] += 1
                version = maker.bent(program, version)
        self.assertGreater(min(words.values()), 60)

    def test_sound_versions_are_closed(self):
        for seed in range(15):
            maker = VersionMaker(seed)
            program = maker.program()
            version = maker.sound(program, 40)
            told = decide(program, version)
            self.assertEqual(told[0], "closed")
            self.assertIsNone(judge_papers(program, version, told[1]))

    def test_drawn_starts_of_closed_points_are_no_exceptions(self):
        """A start leads along the paper to a leaf "alike", and both runs are alike there."""
        leaves = 0
        for seed in range(15):
            maker, starts = VersionMaker(seed), StartMaker(seed)
            program = maker.program()
            version = maker.bent(program, maker.guessing(program, 20))
            for k in range(len(version.points())):
                told = decide_point(program, version, k)
                for _ in range(3):
                    start = starts.start(program, version, k)
                    if start is not None and told[0] == "closed":
                        leaves += self.led(program, version, k, start, told[1])
        self.assertGreater(leaves, 100)

    def led(self, program, version, k, start, paper):
        word = judge_start(program, version, k, *start)
        if word == "fit":
            return 0
        self.assertEqual(word, "closed")
        asked = Answering(program, version, k, *start)
        answers = {"kind": ["none", "bit", "err", "fun", "obj", "num", "col", "unset"], "bit": ["yes", "no"],
                   "has": ["yes", "no"],
                   "shape": asked.candidates + ["other"]}
        while paper[0] == "ask":
            question = paper[1]
            answer = asked.answer(question)
            if answer == "further":
                paper = paper[2][-1]
            elif question[0] in answers:
                paper = paper[2][answers[question[0]].index(answer)]
            elif question[0] == "which":
                paper = paper[2][answer]
            else:
                paper = paper[2][0 if answer == "none" else answer + 1]
        self.assertEqual(paper, ("alike",))
        return 1


class GoingBack(unittest.TestCase):
    def back(self, piece_of, version, number, k=0):
        told = goes_back(piece_of.program, version, k, number)
        if told is None:
            return False
        self.shown(piece_of.program, version, k, number, told)
        return True

    def shown(self, program, version, k, number, told):
        """The row goes back in the start that is told."""
        book, state, objects = told
        self.assertIsInstance(objects, list)
        self.assertNotEqual(judge_start(program, version, k, book, state, objects), "fit")
        args = (program, book, version, objects, k, entered(state, version, objects, k), held_of(state))
        self.assertEqual(quick_run(*args)[:2], ("back", number))
        self.assertEqual(run_path(*args)[-1], number)

    def test_checks(self):
        piece_of = Piece("fun main(a, b) {show a; show b; return a;}")
        back = piece_of.end(0, 0)
        for fact, facts, expected in (
            (("kind", 0, "num"), (), True), (("kind", 0, "num"), [("is", 0, num(1))], False),
                                      (("kind", 0, "num"), [("is", 0, YES)], True),
            (("same", 0, 1), (), True), (("same", 0, 1), [("same", 1, 0)], False), (("unlike", 0, 1), (), True),
            (("unlike", 0, 1), [("unlike", 0, 1)], False), (("unlike", 0, 1), [("kind", 0, "num"), ("kind", 1, "obj")],
                                                            False),
            (("is", 0, YES), [("kind", 0, "bit")], True), (("is", 0, YES),
                                                           [("kind", 0, "bit"), ("is", 1, NO), ("unlike", 0, 1)],
                                                           False),
            (("shape", 0, ("n", ("f",))), [("kind", 0, "obj")], True),
                                      (("shape", 0, ("n", ("f",))), [("shape", 0, ("n", ("f",)))], False),
            (("shape", 0, ("n", ("f",))), [("shape", 0, ("n", ("g",)))], True),
        ):
            version = piece_of.version([("check", fact, back), ("show", 0), ("link", 1, 1)], facts, ["n"],
                                       points=[(1, ())])
            self.assertEqual(self.back(piece_of, version, 1), expected)

    def test_rows_in_turn(self):
        piece_of = Piece("fun main(a) {a.f = a; let b = a.f; drop a.f; return b;}")
        end = [piece_of.end(at, at) for at in range(4)]
        version = piece_of.version([("set", 0, "f", 0, end[0]), ("get", 1, 0, "f", end[1]), ("drop", 0, "f", end[2]),
                                    ("return", 3, 1)])
        self.assertEqual([self.back(piece_of, version, number) for number in (1, 2, 3)], [True, False, False])
        version = piece_of.version([("get", 1, 0, "f", end[0]), ("set", 0, "f", 0, end[0]), ("drop", 0, "f", end[0]),
                                    ("drop", 0, "f", end[0]),
                                    ("stop", end[0])])
        self.assertEqual([self.back(piece_of, version, number) for number in (1, 2, 3, 4, 5)],
                         [True, False, False, True, False])

    def test_rows_to_which_no_way_leads(self):
        piece_of = Piece("fun main(a) {show a; return a;}")
        back = piece_of.end(0, 0)
        rows = [("const", 1, YES), ("test", 1, 5), ("stop", back), ("stop", back), ("stop", back)]
        version = piece_of.version(rows)
        self.assertEqual([self.back(piece_of, version, number) for number in (3, 5)], [True, False])
        rows[0] = ("const", 1, NO)
        self.assertEqual([self.back(piece_of, piece_of.version(rows), number) for number in (3, 5)], [False, True])
        stuck = piece_of.version([("const", 1, NONE), ("test", 1, 4), ("stop", back), ("stop", back)])
        self.assertEqual([self.back(piece_of, stuck, number) for number in (3, 4)], [False, False])

    def test_globals_prims_new_and_calls(self):
        piece_of = Piece("fun main(a, b) {let c = call a(b); let c = a.m(b); return c;} fun f(x) {return x;}")
        end = piece_of.end(0, 0)
        for row, expected in (
            (("global", 2, "g", end), True), (("prim", 2, "add", (0, 1), end), True),
                              (("prim", 2, "neg", (1,), end), False),
            (("prim", 2, "add", (1, 1), end), False), (("new", 2, 0, end), True), (("new", 2, 3, end), False),
                              (("stop", end), True),
        ):
            version = piece_of.version([("const", 3, NONE), row, ("stop", end)], [("kind", 1, "num")])
            self.assertEqual(self.back(piece_of, version, 2), expected)
        version = piece_of.version([("put", "g", 0), ("global", 2, "g", end), ("stop", end)])
        self.assertFalse(self.back(piece_of, version, 2))
        call = [("call", 2, 0, (1,), end, 1)]
        for facts, expected in (((), True), ([("is", 0, ("fun", "f"))], False), ([("is", 0, ("fun", "main"))], True),
                                ([("kind", 0, "fun")], True)):
            self.assertEqual(self.back(piece_of, piece_of.version(call, facts, points=[(1, ())]), 1), expected)
        method = [("method", 2, 0, "m", (1,), piece_of.end(0, 1), 1)]
        self.assertTrue(self.back(piece_of, piece_of.version(method, points=[(2, ())], at=1), 1))

    def test_facts_are_settled(self):
        """What the facts of the point tell apart must be possible where a row goes back."""
        piece_of = Piece("fun main(a, b, c) {show a; show b; show c; return a;}")
        bits = [("kind", q, "bit") for q in range(3)]
        pairs = [("unlike", 0, 1), ("unlike", 1, 2), ("unlike", 0, 2)]
        for facts, expected in ((bits + pairs, False), (bits + pairs[:2], True), (pairs, True)):
            self.assertEqual(self.back(piece_of, piece_of.version([("stop", piece_of.end(0, 0))], facts), 1), expected)
        shapes = [("shape", 0, ("n", ())), ("shape", 1, (None, ()))]
        for facts, expected in ((shapes, True), (shapes + [("same", 0, 1)], False)):
            self.assertEqual(self.back(piece_of, piece_of.version([("stop", piece_of.end(0, 0))], facts, ["n"]), 1),
                             expected)

    def test_second_points(self):
        piece_of = Piece("fun main(a) {show a; return a;}")
        version = piece_of.version([("show", 0), ("link", 1, 1)], points=[(1, [("kind", 0, "num")])])
        self.assertTrue(self.back(piece_of, version, 4, 1))

    def test_drawn_versions(self):
        counts = {True: 0, False: 0}
        for seed in range(12):
            maker, starts = VersionMaker(seed), StartMaker(seed)
            program = maker.program()
            version = maker.guessing(program, 25)
            for k in range(len(version.points())):
                ends = [number for number in piece(version, k) if end_of(version.row(number)) is not None]
                told = {number: goes_back(program, version, k, number) for number in ends}
                for number in ends:
                    counts[told[number] is not None] += 1
                    if told[number] is not None:
                        self.shown(program, version, k, number, told[number])
                start = starts.start(program, version, k)
                if start is not None and judge_start(program, version, k, *start) != "fit":
                    book, state, objects = start
                    registers = entered(state, version, objects, k)
                    last = quick_run(program, book, version, objects, k, registers, held_of(state))
                    if last[0] == "back":
                        self.assertIsNotNone(told[last[1]])
        self.assertGreater(min(counts.values()), 25)


class Times(unittest.TestCase):
    def test_large_points_are_decided_soon(self):
        """Two kinds that no fact tells, compared and passed on, at a point of several objects."""
        piece_of = Piece("fun main(a, b) {let c = a == b; let d = a.f; let d = b.f; return c;}")
        rows = [("same", 2, 0, 1), ("get", 3, 0, "f", piece_of.end(1, 1)), ("get", 3, 1, "f", piece_of.end(2, 2)),
                ("return", 3, 2)]
        version = piece_of.version(rows, names=["n", "o"])
        began = time.process_time()
        told = decide_point(piece_of.program, version, 0)
        self.assertEqual(told[0], "closed")
        self.assertIsNone(first_wrong(piece_of.program, version, 0, told[1]))
        self.assertLess(time.process_time() - began, 10)
        self.assertGreater(size(told[1])[0], 300)


if __name__ == "__main__":
    unittest.main()
