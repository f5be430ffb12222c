"""Starts and what is judged of them (S8.1); shapeguess/starts.py."""

import unittest

from drawnversions import VersionMaker
from pieces import Piece, val
from samples import NO, NONE, STRANGE, YES, ground, ground_book, num
from shapeguess.books import Book
from shapeguess.questions import answers, stands
from shapeguess.quick import Version
from shapeguess.shapes import Shapes
from shapeguess.starts import judge_start
from shapeguess.states import State
from shapeguess.steps import run
from shapeguess.walks import verdict
from startmodel import Answering, StartMaker

BOOK = ground_book()
OBJECTS = [(None, (("f", YES), ("g", num(1)))), (0, ()), (0, (("e", NONE),))]


def obj(number):
    return ("obj", number)


def state_of(piece, row, *values, objects=OBJECTS, told=None, outer=(), book=BOOK):
    """A state in which the function stands at a row, its first registers have values, and every object is shown."""
    rest = (NONE,) * (piece.code.registers() - len(values))
    shown = [obj(number) for number in range(len(objects))]
    return State(piece.program, book, list(outer) + [(piece.function, row, values + rest)], objects, told or {}, shown)


class JudgeTest(unittest.TestCase):
    def judge(self, expected, piece, version, state, objects=(), k=0):
        for binding in (list(objects), tuple(objects)):
            self.assertEqual(judge_start(piece.program, version, k, state.book(), state, binding), expected)


class Fitting(JudgeTest):
    piece = Piece("fun main(a, b) {show a; show b; show $g; return a;} fun f(a, b) {show a; show b; return a;}")

    def version(self, facts=(), names=(), watched=(), pairs=None):
        places = pairs or self.piece.places(0)
        end = (0, (("main", 0, places),))
        return Version("main", list(names), list(watched), 6, [("point", 0), ("stop", end)],
                       [(0, tuple(facts), places)])

    def test_a_start(self):
        state = state_of(self.piece, 0, YES, num(1))
        self.judge("closed", self.piece, self.version(), state)
        self.judge("closed", self.piece, self.version(names=["n", "o"]), state, [2, 0])

    def test_a_state_with_an_end(self):
        ended, _ = run(state_of(self.piece, 0, YES, num(1), told={"g": NONE}), 50)
        self.assertIsNotNone(ended.end())
        self.judge("fit", self.piece, self.version(), ended)

    def test_another_function_or_row(self):
        other = State(self.piece.program, BOOK, [("f", 0, (YES, NO, NONE))], OBJECTS, {}, [])
        self.judge("fit", self.piece, self.version(), other)
        self.judge("fit", self.piece, self.version(), state_of(self.piece, 1, YES, num(1)))

    def test_the_innermost_frame_counts(self):
        piece = Piece("fun main(a) {let b = call a(); return a;}")
        version = piece.version([("stop", piece.end(0, 0))])
        waiting = ("main", 0, (YES, NO, NONE))
        self.judge("closed", piece, version, state_of(piece, 0, NO, outer=[waiting]))
        self.judge("fit", piece, version, state_of(piece, 1, NO, outer=[waiting]))

    def test_places(self):
        value = self.version(pairs=((0, val(YES)), (1, ("reg", 1))))
        self.judge("closed", self.piece, value, state_of(self.piece, 0, YES, num(1)))
        self.judge("fit", self.piece, value, state_of(self.piece, 0, NO, num(1)))
        name = self.version(names=["n"], pairs=((0, ("reg", 3)), (1, ("name", "n"))))
        self.judge("closed", self.piece, name, state_of(self.piece, 0, YES, obj(2)), [2])
        self.judge("fit", self.piece, name, state_of(self.piece, 0, YES, obj(2)), [1])
        self.judge("fit", self.piece, name, state_of(self.piece, 0, YES, num(1)), [1])

    def test_facts(self):
        names, shape = ["n"], ("n", ("e",))
        for fact, one, other in ((("kind", 0, "num"), num(1), YES), (("is", 0, NO), NO, YES),
                                 (("is", 0, ("name", "n")), obj(0), obj(1)),
                                 (("shape", 0, shape), obj(2), obj(1)), (("same", 0, 1), num(2), num(1)),
                                 (("unlike", 0, 1), num(1), num(2))):
            version = self.version([fact], names)
            self.judge("closed", self.piece, version, state_of(self.piece, 0, one, num(2)), [0])
            self.judge("fit", self.piece, version, state_of(self.piece, 0, other, num(2)), [0])
        self.judge("fit", self.piece, self.version([("shape", 0, shape)], names),
                   state_of(self.piece, 0, obj(2), NONE), [1])

    def test_watched_facts(self):
        for fact, told, binding, expected in (
            (("global", "g", YES), {"g": YES}, [0], "closed"), (("global", "g", YES), {"g": NO}, [0], "fit"),
            (("global", "g", YES), {}, [0], "fit"), (("global", "g", ("name", "n")), {"g": obj(1)}, [1], "closed"),
            (("global", "g", ("name", "n")), {"g": obj(1)}, [2], "fit"), (("holds", "n", (None, ("f", "g"))), {}, [0],
                                                                          "closed"),
            (("holds", "n", (None, ("g", "f"))), {}, [0], "fit"), (("holds", "n", (None, ("f", "g"))), {}, [1], "fit"),
            (("slot", "n", "g", num(1)), {}, [0], "closed"), (("slot", "n", "g", num(2)), {}, [0], "fit"),
            (("slot", "n", "e", num(1)), {}, [0], "fit"),
        ):
            self.judge(expected, self.piece, self.version(names=["n"], watched=[fact]),
                       state_of(self.piece, 0, YES, NO, told=told), binding)

    def test_bindings(self):
        version = self.version(names=["n", "o"])
        state = state_of(self.piece, 0, YES, NO)
        for objects in ([0, 1], (2, 0)):
            self.assertEqual(judge_start(self.piece.program, version, 0, BOOK, state, objects), "closed")
        for objects in STRANGE + ([0], [0, 1, 2], [0, 0], [0, 3], [0, -1], [0, True], [False, 1], [0, None], [0, "1"],
                                  [0, [1]],
                                  [0, 10 ** 40], {0: 1, 1: 2}, "01", Shapes(), {"n": 0, "o": 1}):
            self.assertEqual(judge_start(self.piece.program, version, 0, BOOK, state, objects), "fit")
        for objects in ([0], None, {}, ""):
            self.assertEqual(judge_start(self.piece.program, self.version(), 0, BOOK, state, objects), "fit")

    def test_tokens_of_the_version(self):
        state = state_of(self.piece, 0, YES, NO)
        for number, expected in ((2, "closed"), (3, "fit"), (10 ** 40, "fit")):
            version = self.piece.version([("const", 4, num(number)), ("stop", self.piece.end(0, 0))])
            self.judge(expected, self.piece, version, state)
        # Also tokens of rows of other pieces, and of places.
        rows = [("point", 0), ("stop", self.piece.end(0, 0)), ("point", 1),
                ("stop", self.piece.end(0, 0, r0=val(("tok", "col", 2))))]
        version = Version("main", [], [], 6, rows, [(0, (), self.piece.places(0))] * 2)
        self.judge("fit", self.piece, version, state)

    def test_tokens_of_the_program(self):
        piece = Piece("fun main(a) {return a; show #num:3;}")
        version = piece.version([("return", 0, 0)])
        sizes = {"num": 4, "col": 2}
        tables = {"addnum": [0] * 16, "paint": [0] * 8, "negnum": [0] * 4, "lessnum": ["no"] * 16}
        large = Book(ground(), sizes, tables)
        self.judge("closed", piece, version, state_of(piece, 0, YES, objects=[], book=large))

    def test_other_points(self):
        piece = Piece("fun main(a) {show a; return a;}")
        version = piece.version([("show", 0), ("link", 1, 1)], points=[(1, [("kind", 0, "bit")])])
        self.judge("closed", piece, version, state_of(piece, 1, YES), k=1)
        self.judge("fit", piece, version, state_of(piece, 1, num(1)), k=1)
        self.judge("fit", piece, version, state_of(piece, 0, YES), k=1)
        # The fact of the point to which the link leads need not hold, and then the start shows it.
        self.judge("closed", piece, version, state_of(piece, 0, YES))
        self.judge(None, piece, version, state_of(piece, 0, num(1)))


class Conditions(JudgeTest):
    def test_stuck(self):
        piece = Piece("fun main(a) {if a {show a;} return a;}")
        version = piece.version([("test", 0, 3), ("link", 1, 1), ("link", 1, 2)], points=[(1, ()), (2, ())])
        self.judge(None, piece, version, state_of(piece, 0, num(1)))
        for value in (YES, NO):
            self.judge("closed", piece, version, state_of(piece, 0, value))
        check = ("check", ("kind", 0, "bit"), piece.end(0, 0))
        version = piece.version([check, ("test", 0, 4), ("link", 1, 1), ("link", 1, 2)], points=[(1, ()), (2, ())])
        for value in (YES, NO, num(1)):
            self.judge("closed", piece, version, state_of(piece, 0, value))
        version = piece.version([check, ("test", 0, 4), ("link", 1, 1), ("link", 1, 1)], points=[(1, ())])
        for value, expected in ((YES, "closed"), (NO, None), (num(1), "closed")):
            self.judge(expected, piece, version, state_of(piece, 0, value))

    def test_going_back(self):
        piece = Piece("fun main(a, b) {let c = a.f; show c; return c;}")
        get = ("get", 2, 0, "f", piece.end(0, 0))
        for steps, row, expected in ((2, 2, "closed"), (1, 1, None), (3, 2, None), (1, 2, None), (9, 2, None)):
            version = piece.version([get, ("show", 2), ("stop", piece.end(steps, row))])
            self.judge(expected, piece, version, state_of(piece, 0, obj(1), NONE))
            # Where it goes back at once, the later end does not matter.
            self.judge("closed", piece, version, state_of(piece, 0, obj(2), NONE, objects=[(None, ())] * 3))

    def test_frames_around(self):
        piece = Piece("fun main(a) {let b = call a(); show b; return b;} fun f(x) {return x;}")
        outer = [("main", 0, (YES, NO, NONE))]
        version = piece.version([("return", 0, 1)], at=2)
        self.judge("closed", piece, version, state_of(piece, 2, YES, num(1), outer=outer))
        wrong = Version("main", [], [], 4, [("point", 0), ("const", 3, num(2)), ("return", 0, 3)], version.points())
        self.judge(None, piece, wrong, state_of(piece, 2, YES, num(1), outer=outer))
        self.judge("closed", piece, wrong, state_of(piece, 2, YES, num(2), outer=outer))
        # The register of the waiting frame that gets the value is not needed, so that the states are alike all the same.
        piece = Piece("fun main(a) {let b = call a(); return a;}")
        self.assertEqual(piece.code.row(0)[0], "call")
        version = piece.version([("const", 3, num(2)), ("return", 0, 3)], at=1)
        self.judge("closed", piece, version, state_of(piece, 1, YES, outer=[("main", 0, (YES, NO, NONE))]))
        self.judge(None, piece, version, state_of(piece, 1, YES))

    def test_returns(self):
        piece = Piece("fun main(a) {let b = call &id(a); return b;} fun id(x) {return x;}")
        for steps, expected in ((0, None), (1, None), (2, None), (3, "closed"), (4, None), (5, None), (40, None)):
            self.judge(expected, piece, piece.version([("return", steps, 0)]), state_of(piece, 0, YES))
        piece = Piece("fun main(a) {return a; throw a;}")
        self.judge("closed", piece, piece.version([("return", 0, 0)]), state_of(piece, 0, YES))
        self.judge(None, piece, piece.version([("return", 0, 0)], at=1), state_of(piece, 1, YES))
        # The frame is left by a throw, and another frame of the function stands at a return.
        text = "fun main(a) {try {let b = call &main(a); return a;} catch e {return a;} throw a;}"
        piece = Piece(text)
        self.assertEqual([row[0] for row in piece.code.rows()][:6], ["const", "call", "return", "jump", "return",
                                                                     "throw"])
        waiting = ("main", 1, (YES,) + (NONE,) * (piece.code.registers() - 1))
        self.judge(None, piece, piece.version([("return", 1, 0)], at=5), state_of(piece, 5, YES, outer=[waiting]))

    def test_links(self):
        piece = Piece("fun main(a, b) {a.f = b; let c = a.f; return c;}")
        rows = [("set", 0, "f", 1, piece.end(0, 0)), ("get", 2, 0, "f", piece.end(1, 1)), ("link", 2, 1)]
        for facts, expected in (((), "closed"), ([("same", 2, 2)], "closed"), ([("kind", 2, "num")], "closed"),
                                ([("kind", 2, "obj")], None)):
            self.judge(expected, piece, piece.version(rows, points=[(2, facts)]), state_of(piece, 0, obj(1), num(1)))
        const = [("const", 2, num(1))]
        for changed, expected in ((const + rows[:1] + rows[2:], "closed"), (const + rows[2:], None)):
            self.judge(expected, piece, piece.version(changed, points=[(2, ())]), state_of(piece, 0, obj(0), num(1)))

    def test_facts_behind_the_piece_use_its_objects(self):
        piece = Piece("fun main(a, b) {a.f = b; return a;}")
        rows = [("set", 0, "f", 1, piece.end(0, 0)), ("link", 1, 1)]
        for shape, expected in ((("n", ("f",)), "closed"), (("n", ()), None), ((None, ("f",)), None)):
            version = piece.version(rows, names=["n"], points=[(1, [("shape", 0, shape)])])
            self.judge(expected, piece, version, state_of(piece, 0, obj(1), YES), [0])

    def test_a_broken_watched_fact_does_not_matter(self):
        piece = Piece("fun main(a) {$g = a; return a;}")
        version = piece.version([("put", "g", 0), ("link", 1, 1)], watched=[("global", "g", YES)], points=[(1, ())])
        self.judge("closed", piece, version, state_of(piece, 0, NO, told={"g": YES}))

    def test_calls(self):
        piece = Piece("fun main(a, b) {let c = call a(b); show a; return c;} fun f(x) {return x;} fun g(x) {return x;} fun h() {return !x;}")

        def version(name, q, *facts):
            rows = [("const", 4, ("fun", name)), ("call", 2, 4, (q,), piece.end(0, 0), 1)]
            return piece.version(rows, points=[(1, facts)])

        self.judge("closed", piece, version("f", 1), state_of(piece, 0, ("fun", "f"), YES))
        self.judge(None, piece, version("f", 1), state_of(piece, 0, ("fun", "g"), YES))
        self.judge(None, piece, version("f", 0), state_of(piece, 0, ("fun", "f"), YES))
        for called in (NONE, ("fun", "h"), ("fun", "zz"), obj(0)):
            self.judge(None, piece, version("f", 1), state_of(piece, 0, called, YES))
        self.judge("closed", piece, version("h", 1), state_of(piece, 0, ("fun", "f"), YES))
        for fact, expected in ((("kind", 0, "fun"), "closed"), (("kind", 0, "num"), None),
                               (("is", 0, ("fun", "f")), "closed"),
                               (("is", 0, ("fun", "g")), None), (("same", 0, 0), "closed"), (("unlike", 0, 0), None)):
            self.judge(expected, piece, version("f", 1, fact), state_of(piece, 0, ("fun", "f"), YES))

    def test_calls_elsewhere(self):
        piece = Piece("fun main(a, b) {show b; let c = call a(b); return c;} fun f(x) {return x;}")
        for shown, steps, row, expected in (([1], 1, 1, "closed"), ([], 1, 1, None), ([1], 2, 1, None),
                                            ([1], 0, 1, None)):
            rows = [("show", q) for q in shown] + [("call", 2, 0, (1,), piece.end(steps, row), 1)]
            version = piece.version(rows, points=[(row + 1, ())])
            self.judge(expected, piece, version, state_of(piece, 0, ("fun", "f"), YES))

    def test_methods(self):
        piece = Piece("fun main(a, b) {let c = a.m(b); return c;} fun f(s, x) {return x;} fun g(s, x) {return s;}")
        objects = [(None, (("m", ("fun", "f")),)), (0, ())]
        method = piece.version([("method", 2, 0, "m", (1,), piece.end(0, 0), 1)], points=[(1, ())])
        self.judge("closed", piece, method, state_of(piece, 0, obj(1), YES, objects=objects))
        self.judge("closed", piece, method, state_of(piece, 0, YES, YES, objects=objects))
        for name, args, expected in (("f", (0, 1), "closed"), ("g", (0, 1), None), ("f", (1, 1), None),
                                     ("f", (0, 0), None)):
            rows = [("const", 4, ("fun", name)), ("call", 2, 4, args, piece.end(0, 0), 1)]
            version = piece.version(rows, points=[(1, ())])
            self.judge(expected, piece, version, state_of(piece, 0, obj(1), YES, objects=objects))

    def test_new_objects_may_have_other_numbers(self):
        piece = Piece("fun main(a) {let b = new(none); let c = new(b); let d = call a(c); return d;} fun f(x) {return x;}")
        back = piece.end(0, 0)
        rows = [("const", 5, NONE), ("new", 6, 5, back), ("new", 1, 5, back), ("new", 2, 1, back)]
        for q, expected in ((2, "closed"), (1, None), (6, None)):
            version = piece.version(rows + [("call", 3, 0, (q,), piece.end(3, 3), 1)], points=[(4, ())])
            self.judge(expected, piece, version, state_of(piece, 0, ("fun", "f")))

    def test_nothing_is_changed(self):
        piece = Piece("fun main(a) {$g = a; return a;}")
        version = piece.version([("put", "g", 0), ("link", 1, 1)], names=["n"], points=[(1, ())])
        state = state_of(piece, 0, obj(1))
        binding = [1]
        judge_start(piece.program, version, 0, BOOK, state, binding)
        self.assertEqual(state, state_of(piece, 0, obj(1)))
        self.assertEqual(binding, [1])


class DrawnStarts(unittest.TestCase):
    def test_starts_follow_branches_whose_verdict_they_share(self):
        """Questions that stand are asked until it is not open; all objects are shown, and there is one frame."""
        words = {}
        for seed in range(16):
            maker, starts = VersionMaker(seed), StartMaker(seed)
            program = maker.program()
            version = maker.guessing(program, 12)
            for _ in range(6):
                for k in range(len(version.points())):
                    start = starts.start(program, version, k)
                    if start is not None:
                        word = judge_start(program, version, k, *start)
                        words[word] = words.get(word, 0) + 1
                        if word != "fit":
                            self.follow(program, version, k, start, word)
                version = maker.bent(program, version)
        self.assertGreater(min(words[None], words["closed"], words["fit"]), 20)

    def follow(self, program, version, k, start, word):
        asked = Answering(program, version, k, *start)
        branch = []
        for question in self.questions(version, k):
            if verdict(program, version, k, branch) != "open":
                break
            if stands(program, version, k, branch, question):
                answer = asked.answer(question)
                self.assertIn(answer, answers(program, version, k, branch, question))
                branch.append((question, answer))
        found = verdict(program, version, k, branch)
        self.assertNotEqual(found, "impossible")
        if found != "open":
            self.assertEqual(found, "alike" if word == "closed" else "unlike")

    def questions(self, version, k):
        places = [place[1] for _, place in version.point(k)[2] if place[0] == "reg"]
        terms = [("start", q) for q in places] + [("global", g) for g in ("g", "h", "while")]
        first = [(word, term) for term in terms for word in ("kind", "bit", "which")]
        for o in range(4):
            first += [("shape", o), ("parent", o)] + [("has", o, f) for f in ("f", "g", "if")]
            first += [(word, ("field", o, f)) for f in ("f", "g", "if") for word in ("kind", "bit", "which")]
        return first


if __name__ == "__main__":
    unittest.main()
