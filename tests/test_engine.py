"""Engines (S10.1 to S10.8); shapeguess/engine.py."""

import random
import unittest

from enginetools import Guessing, Play, told_entry
from pieces import Piece
from samples import NO, NONE, STRANGE, YES, Maker, ground, ground_book, num, program_of
from shapeguess.cells import Cell
from shapeguess.choices import can_do
from shapeguess.compiling import compiled
from shapeguess.engine import Engine
from shapeguess.errors import BadChoice, BadState, NoFunction, StuckRow
from shapeguess.objects import Heap
from shapeguess.quick import Version
from shapeguess.shapes import Shapes
from shapeguess.slow import slow
from shapeguess.special import gone_on
from shapeguess.states import State, start
from shapeguess.steps import run
from shapeguess.trees import Program
from slowversion import with_part

BOOK = ground_book()
TEXT = (
    "fun main(a) {let o = new(none); o.m = &inc; o.f = #num:1; let p = new(o); $g = p; let r = p.m(a); show r; "
    "try {show call &bad(r);} catch e {show e;} o.f = r; drop o.f; return r;}"
    "fun inc(s, x) {let y = add(x, s.f); return y;} fun bad(x) {let y = x; throw y;}"
)
PROGRAM = program_of(TEXT)


def engine_of(program=PROGRAM, arguments=(num(1),), most=2, function="main"):
    return Engine(start(program, BOOK, function, list(arguments)), most)


def obj(number):
    return ("obj", number)


def engine_at(piece, values, objects=(), told=None, most=2):
    """An engine in one frame at row 0, whose first registers have values."""
    rest = (NONE,) * (piece.code.registers() - len(values))
    return Engine(State(piece.program, BOOK, [(piece.function, 0, tuple(values) + rest)], list(objects), told or {},
                        []), most)


class EngineTest(unittest.TestCase):
    def play(self, *args, **more):
        return Play(self, engine_of(*args, **more))


class StepsAlone(EngineTest):
    def test_beginning(self):
        state = State(PROGRAM, BOOK, [("inc", 0, (obj(1), YES, NO, num(1)))], [(None, (("f", YES),)), (0, ())],
                      {"k": NO}, [YES])
        engine = Engine(state, 3)
        self.assertEqual(engine.rebuilt(), state)
        self.assertEqual((engine.steps(), engine.shown(), engine.end(), engine.log(), engine.versions()),
                         (0, [YES], None, [], []))
        self.assertEqual(engine.frames(), [("plain", "inc", 0)])
        self.assertEqual(engine.cells(), {("main", 3): [], ("main", 5): [], ("main", 8): [], ("main", 15): [],
                                          ("inc", 0): []})
        self.assertEqual([engine.rises(name) for name in PROGRAM.names()], [0, 0, 0])
        table = Shapes()
        Heap(table, state.objects())
        self.assertEqual(engine.table(), table)

    def test_a_state_with_an_end(self):
        ended, _ = run(start(PROGRAM, BOOK, "inc", [YES, YES]), 9)
        self.assertIsNotNone(ended.end())
        with self.assertRaises(BadState) as caught:
            Engine(ended, 2)
        self.assertEqual(caught.exception.word, "end")

    def test_state_by_state(self):
        for program in [PROGRAM] + [Program(ground(), Maker(seed).lively_functions()) for seed in range(12)]:
            arguments = [num(1)] if program == PROGRAM else []
            for most in (1, 2, 3):
                engine, plain = engine_of(program, arguments, most), start(program, BOOK, "main", arguments)
                for turn in range(150):
                    self.assertEqual(engine.rebuilt(), plain)
                    self.assertEqual((engine.steps(), engine.shown(), engine.end()), (turn, plain.shown(), plain.end()))
                    self.assertEqual(engine.frames(), [("plain",) + frame[:2] for frame in plain.frames()])
                    if plain.end() is not None:
                        break
                    self.assertEqual(engine.do(("step",)), 1)
                    plain, _ = run(plain, 1)
                self.assertEqual(engine.log(), [("step", 1, ())] * engine.steps())

    def test_each_error(self):
        """What throws in the plain machine throws here, and what is tried a second time is the same."""
        for body, word in (("return $h;", "global"), ("return new(new(new(new(none))));", "deep"),
                           ("return new(a);", "object"), ("return a.f;", "object"),
                           ("a.f = a;", "object"), ("drop a.f;", "object"), ("return new(none).f;", "field"),
                           ("drop new(none).f;", "field"),
                           ("return a.m();", "object"), ("return new(none).m();", "field"),
                           ("return add(a, a);", "kind"), ("if none {}", "bit"),
                           ("return call a();", "function"), ("return call &main();", "count")):
            program = program_of("fun main(a) {" + body + "}")
            play = self.play(program, [YES])
            while play.engine.end() is None:
                play.do("step")
            self.assertEqual(play.engine.end(), ("thrown", ("err", word)))

    def test_waiting_frames(self):
        state, _ = run(start(PROGRAM, BOOK, "main", [num(1)]), 9)
        self.assertEqual([frame[0] for frame in state.frames()], ["main", "inc"])
        play = Play(self, Engine(state, 2))
        self.assertEqual(play.engine.frames(), [("plain", "main", 8), ("plain", "inc", 0)])
        while play.engine.end() is None:
            play.do("step")
        self.assertEqual(play.engine.end(), ("returned", num(2)))
        self.assertEqual(play.engine.frames(), [])
        self.assertEqual(play.engine.rebuilt().frames(), [])


class Cells(EngineTest):
    def entries(self, engine, place):
        told = engine.cells()[place]
        return told if told == "many" else [told_entry(engine.table(), entry) for entry in told]

    def test_what_is_learned(self):
        play = self.play()
        seen = []
        while play.engine.end() is None:
            play.do("step")
            seen.append([len(entries) for entries in play.engine.cells().values()])
        engine = play.engine
        root = (None, ("m", "f"))
        self.assertEqual(self.entries(engine, ("main", 3)), [((None, ()), ("grow", (None, ("m",)), 0))])
        self.assertEqual(self.entries(engine, ("main", 5)), [((None, ("m",)), ("grow", root, 1))])
        self.assertEqual(self.entries(engine, ("main", 8)), [((0, ()), ("up", ((0, root),), 0))])
        self.assertEqual(self.entries(engine, ("main", 15)), [(root, ("own", 1))])
        self.assertEqual(self.entries(engine, ("inc", 0)), [((0, ()), ("up", ((0, root),), 1))])
        self.assertEqual([engine.rises(name) for name in PROGRAM.names()], [4, 1, 0])
        self.assertEqual(sum(map(sum, seen[:4])), 1)
        # Each of the shapes was asked for once, when an object got it; dropping made one more.
        table = engine.table()
        self.assertEqual([table.shape(number) for number in range(len(table))],
                         [(None, ()), (None, ("m",)), root, (0, ())])
        self.assertEqual(list(engine.cells()), [("main", 3), ("main", 5), ("main", 8), ("main", 15), ("inc", 0)])

    def run_rows(self, text, objects, *values, most=2):
        """An engine in one frame of main, whose first registers have values, run to its end."""
        play = Play(self, engine_at(Piece(text), values, objects, most=most))
        while play.engine.end() is None:
            play.do("step")
        return play.engine

    def test_nothing_is_learned_of_what_is_no_object(self):
        for text in ("fun main(a) {return a.f;}", "fun main(a) {a.f = a;}", "fun main(a) {return a.f();}"):
            for value in (NONE, YES, num(1)):
                engine = self.run_rows(text, [], value)
                self.assertEqual((engine.end(), list(engine.cells().values())), (("thrown", ("err", "object")), [[]]))
                self.assertEqual(engine.rises("main"), 0)

    def test_look_ups_that_find_nothing(self):
        for text in ("fun main(a) {return a.f;}", "fun main(a) {return a.f();}"):
            engine = self.run_rows(text, [(None, ())], obj(0))
            self.assertEqual((engine.end(), list(engine.cells().values())), (("thrown", ("err", "field")), [[]]))
            self.assertEqual(len(engine.table()), 1)

    def test_methods_learn_before_they_throw(self):
        for value, word in ((YES, "function"), (("fun", "zz"), "function"), (("fun", "main"), "count"),
                            (obj(0), "function")):
            engine = self.run_rows("fun main(a, b, c) {return a.f();}", [(None, (("f", value),))], obj(0), NONE, NONE)
            self.assertEqual(engine.end(), ("thrown", ("err", word)))
            self.assertEqual(engine.cells(), {("main", 0): [(0, ("own", 0))]})
            self.assertEqual(engine.rises("main"), 1)

    def test_most_entries(self):
        objects = [(None, tuple((word, YES) for word in words)) for words in ("f", "gf", "hgf", "ihgf")]
        text = "fun main(a, b, c, d) {let e = call &at(a); let e = call &at(b); let e = call &at(c); return call &at(d);} fun at(x) {return x.f;}"
        for most, expected in ((1, "many"), (2, "many"), (3, "many")):
            engine = self.run_rows(text, objects, obj(0), obj(1), obj(2), obj(3), most=most)
            self.assertEqual(engine.cells()[("at", 0)], expected)
            self.assertEqual(engine.rises("at"), most + 1)
            engine = self.run_rows(text, objects, *(obj(at % most) for at in range(4)), most=most)
            self.assertEqual(len(engine.cells()[("at", 0)]), most)
            self.assertEqual(engine.rises("at"), most)

    def test_clearing(self):
        play = self.play()
        play.until(("plain", "inc", 0))
        self.assertEqual(len(play.engine.cells()[("main", 8)]), 1)
        self.assertEqual(play.do("clear", "main", 8), 0)
        self.assertEqual(play.engine.cells()[("main", 8)], [])
        self.assertEqual(play.engine.rises("main"), 3)
        self.assertEqual(play.engine.log()[-1], ("clear", 0, ()))
        self.assertEqual((play.engine.steps(), play.last()), (9, ("plain", "inc", 0)))
        play.do("clear", "inc", 0)

    def test_lists_are_new(self):
        play = self.play()
        play.until(("plain", "inc", 1))
        cells = play.engine.cells()
        cells[("main", 8)].clear()
        cells.clear()
        self.assertEqual(len(play.engine.cells()[("main", 8)]), 1)
        table = play.engine.table()
        table.number_of(None, ("zz",))
        self.assertNotEqual(play.engine.table(), table)
        for told in (play.engine.frames(), play.engine.shown(), play.engine.log(), play.engine.versions()):
            told.append(None)
        self.assertEqual(len(play.engine.frames()), 2)
        self.assertNotIn(None, play.engine.shown() + play.engine.log() + play.engine.versions())

    def test_rises_of_no_function(self):
        engine = engine_of()
        for name in STRANGE + ("mai", ("main",), ["main"], Shapes(), PROGRAM):
            with self.assertRaises(NoFunction) as caught:
                engine.rises(name)
            self.assertIs(caught.exception.name, name)

    def test_cells_beside_a_heap_of_their_own(self):
        """Each row of drawn runs is carried out a second time, by cells and a heap that the engine does not know."""
        learned = 0
        for seed in range(16):
            program = Program(ground(), Maker(seed).lively_functions())
            engine, heap = engine_of(program, ()), Heap(Shapes(), [])
            rows = {name: code.rows() for name, code in compiled(program).items()}
            cells = {(name, at): Cell(2, row[0] == "set") for name in rows for at, row in enumerate(rows[name])
                     if row[0] in ("get", "set", "method")}
            for _ in range(200):
                if engine.end() is not None:
                    break
                name, at, values = engine.rebuilt().frames()[-1]
                engine.do(("step",))
                self.follow(heap, cells, (name, at), rows[name][at], values, engine.rebuilt().objects())
                self.assertEqual(engine.cells(), {place: cell.entries() for place, cell in cells.items()})
                self.assertEqual(engine.table(), heap.table())
            self.assertEqual(sum(engine.rises(name) for name in rows), sum(cell.rises() for cell in cells.values()))
            learned += sum(cell.rises() for cell in cells.values())
        self.assertGreater(learned, 40)

    def follow(self, heap, cells, place, row, values, objects):
        if row[0] in ("get", "method") and values[row[2]][0] == "obj":
            cells[place].read_field(heap, values[row[2]][1], row[3])
        elif row[0] == "set" and values[row[1]][0] == "obj":
            cells[place].write_field(heap, values[row[1]][1], row[2], values[row[3]])
        elif row[0] == "drop" and values[row[1]][0] == "obj" and heap.own(values[row[1]][1], row[2]) is not None:
            heap.drop_field(values[row[1]][1], row[2])
        elif row[0] == "new" and len(objects) > len(heap):
            heap.make(objects[-1][0])
        self.assertEqual(heap.objects(), objects)


class InVersions(EngineTest):
    def test_entering_and_going_back(self):
        play = self.play()
        version = slow(PROGRAM, "main")
        self.assertEqual(play.do("put", version, ()), 0)
        self.assertEqual(play.engine.versions(), [(version, (), True)])
        before = play.engine.rebuilt()
        self.assertEqual(play.do("enter", 0, 0), 0)
        self.assertEqual(play.engine.frames(), [("point", 0, 0)])
        self.assertEqual(play.engine.rebuilt(), before)
        self.assertEqual(play.do("back"), 0)
        self.assertEqual(play.engine.frames(), [("plain", "main", 0)])
        self.assertEqual(play.engine.log(), [("put", 0, ()), ("enter", 0, ()), ("back", 0, ())])
        self.assertEqual(play.engine.steps(), 0)

    def test_going_back_forgets_what_is_not_live(self):
        piece = Piece("fun main(a, b) {let b = a; show b; return b;}")
        play = Play(self, engine_at(piece, (YES, NO, num(1))))
        play.do("put", slow(piece.program, "main"), ())
        play.do("enter", 0, 0)
        self.assertEqual(play.engine.rebuilt().frames(), [("main", 0, (YES, NONE, NONE))])
        play.do("back")
        self.assertEqual(play.engine.rebuilt().frames(), [("main", 0, (YES, NONE, NONE))])

    def test_links_calls_and_returns(self):
        play = self.play()
        for name in PROGRAM.names():
            play.do("put", slow(PROGRAM, name), ())
        play.do("enter", 0, 0)
        counted = [play.do("step") for _ in range(8)]
        self.assertEqual(counted, [1] * 8)
        self.assertEqual(play.last(), ("point", 0, 8))
        # The method: no step of its end, and the one of the call.
        self.assertEqual(play.do("step"), 1)
        number = slow(PROGRAM, "main").rows().index(("point", 8)) + 1
        self.assertEqual(play.engine.frames(), [("call", 0, number), ("plain", "inc", 0)])
        self.assertEqual(play.do("enter", 1, 0), 0)
        self.assertEqual([play.do("step") for _ in range(3)], [1, 1, 1])
        self.assertEqual(play.engine.frames(), [("point", 0, 9)])
        # Cells learn nothing of what versions do, but the table is asked for the shapes of the objects that result.
        self.assertEqual(set(map(tuple, play.engine.cells().values())), {()})
        self.assertEqual(len(play.engine.table()), 4)

    def test_pieces_that_count_more_steps(self):
        play = self.play()
        version = slow(PROGRAM, "main")
        for _ in range(4):
            version = gone_on(PROGRAM, version, [number for number, row in enumerate(version.rows())
                                                 if row[0] == "link"][0])
        play.do("put", version, ())
        play.do("enter", 0, 0)
        self.assertEqual(play.do("step"), 5)
        self.assertEqual(play.engine.steps(), 5)
        self.assertEqual(play.engine.log()[-1], ("step", 5, ()))
        # Only the shapes of the objects that result, in their order: not those between.
        table = play.engine.table()
        self.assertEqual([table.shape(number) for number in range(len(table))], [(None, ("m",))])

    def test_shapes_of_all_objects_in_their_order(self):
        piece = Piece("fun main(a, b) {let o = new(a); o.g = b; b.h = o; return o;}")
        objects = [(None, (("e", NONE),)), (0, ())]
        play = Play(self, engine_at(piece, (obj(0), obj(1)), objects))
        version = slow(piece.program, "main")
        for _ in range(2):
            version = gone_on(piece.program, version, [number for number, row in enumerate(version.rows())
                                                       if row[0] == "link"][0])
        play.do("put", version, ())
        play.do("enter", 0, 0)
        self.assertEqual(play.do("step"), 3)
        table = play.engine.table()
        self.assertEqual([table.shape(number) for number in range(len(table))],
                         [(None, ("e",)), (0, ()), (0, ("h",)), (0, ("g",))])

    def test_going_back_in_a_step(self):
        piece = Piece("fun main(a) {show a; let b = a.f; return b;}")
        version = gone_on(piece.program, slow(piece.program, "main"), 2)
        for value in (YES, num(1)):
            play = self.play(piece.program, [value])
            play.do("put", version, ())
            play.do("enter", 0, 0)
            self.assertEqual(play.do("step"), 1)
            self.assertEqual(play.engine.frames(), [("plain", "main", 1)])
            self.assertEqual(play.engine.shown(), [value])
            play.do("step")
            self.assertEqual(play.engine.end(), ("thrown", ("err", "object")))
        # An end may count no step at all.
        play = self.play(piece.program, [YES])
        play.do("put", slow(piece.program, "main"), ())
        play.do("enter", 0, 0)
        self.assertEqual([play.do("step") for _ in range(3)], [1, 0, 1])
        self.assertEqual(play.engine.log()[-3:], [("step", 1, ()), ("step", 0, ()), ("step", 1, ())])

    def test_going_back_into_several_frames(self):
        piece = Piece("fun main(a) {let b = call &f(a); return b;} fun f(x) {let y = x.g; return y;}")
        told = (2, (("main", 1, ()), ("f", 0, ((0, ("reg", 0)),))))
        version = piece.version([("get", 1, 0, "g", told), ("stop", (3, (told[1][0], ("f", 1, ((1, ("reg", 1)),)))))])
        play = self.play(piece.program, [YES])
        play.do("put", version, ())
        play.do("enter", 0, 0)
        self.assertEqual(play.do("step"), 2)
        self.assertEqual(play.engine.frames(), [("plain", "main", 1), ("plain", "f", 0)])
        play = Play(self, engine_at(piece, (obj(0),), [(None, (("g", NO),))]))
        play.do("put", version, ())
        play.do("enter", 0, 0)
        self.assertEqual(play.do("step"), 3)
        self.assertEqual(play.engine.frames(), [("plain", "main", 1), ("plain", "f", 1)])
        while play.engine.end() is None:
            play.do("step")
        self.assertEqual(play.engine.end(), ("returned", NO))

    def test_the_end_of_a_run_in_a_version(self):
        piece = Piece("fun main(a) {show a; return a;}")
        version = gone_on(piece.program, slow(piece.program, "main"), 2)
        play = self.play(piece.program, [YES])
        play.do("put", version, ())
        play.do("enter", 0, 0)
        self.assertEqual(play.do("step"), 2)
        self.assertEqual((play.engine.end(), play.engine.frames(), play.engine.steps()), (("returned", YES), [], 2))
        for choice in (("step",), ("back",), ("enter", 0, 0)):
            play.refuse(*choice)

    def test_values_returned_to_plain_frames(self):
        piece = Piece("fun main(a) {let b = call &f(a); show b; return b;} fun f(x) {return x;}")
        play = self.play(piece.program, [num(2)])
        play.do("put", slow(piece.program, "f"), ())
        play.until(("plain", "f", 0))
        play.do("enter", 0, 0)
        self.assertEqual(play.do("step"), 1)
        self.assertEqual(play.engine.frames(), [("plain", "main", 2)])
        play.do("step")
        self.assertEqual(play.engine.shown(), [num(2)])

    def test_values_thrown_through_frames_that_wait(self):
        play = self.play()
        play.do("put", slow(PROGRAM, "main"), ())
        play.until(("plain", "main", 0))
        play.do("enter", 0, 0)
        play.until(("plain", "bad", 0))
        self.assertEqual(play.engine.frames()[0][:2], ("call", 0))
        play.until(("plain", "bad", 1))
        self.assertEqual(play.do("step"), 1)
        self.assertEqual(play.engine.frames()[0][:2], ("plain", "main"))
        self.assertEqual(len(play.engine.frames()), 1)

    def test_values_thrown_out_of_all_frames(self):
        piece = Piece("fun main(a) {let b = call &f(a); return b;} fun f(x) {let y = call &g(x); return y;} fun g(x) {let y = x; throw y;}")
        play = self.play(piece.program, [num(2)])
        for name in ("main", "f", "g"):
            play.do("put", slow(piece.program, name), ())
        for v, name in enumerate(("main", "f", "g")):
            play.until(("plain", name, 0))
            play.do("enter", v, 0)
        while play.engine.end() is None:
            play.do("step")
        self.assertEqual(play.engine.end(), ("thrown", num(2)))
        self.assertEqual(play.engine.frames(), [])

    def test_names(self):
        piece = Piece("fun main(a) {let b = $g; return b;}")
        version = piece.version([("const", 1, ("name", "n")), ("link", 1, 1)], names=["n"],
                                watched=[("global", "g", ("name", "n"))], points=[(1, ())])
        play = Play(self, engine_at(piece, (YES,), [(None, ()), (None, (("f", NO),))], {"g": obj(1), "h": obj(0)}))
        play.refuse("put", version, (0,))
        play.do("put", version, (1,))
        self.assertEqual(play.engine.versions(), [(version, (1,), True)])
        play.do("enter", 0, 0)
        play.do("step")
        self.assertEqual(play.engine.rebuilt().frames(), [("main", 1, (NONE, obj(1), NONE))])


class Thrown(EngineTest):
    """Versions that are thrown away, by choice or by their watched facts."""

    PIECE = Piece("fun main(a) {$g = a; show a; $g = a; let b = call &f(a); $h = b; return b;} fun f(x) {$g = x; return x;}")

    def version(self, *watched, function="main"):
        return with_part(slow(self.PIECE.program, function), watched=list(watched))

    def test_by_choice(self):
        play = self.play(self.PIECE.program, [YES])
        for _ in range(3):
            play.do("put", self.version(), ())
        self.assertEqual(play.do("throw", 1), 0)
        self.assertEqual([told[2] for told in play.engine.versions()], [True, False, True])
        self.assertEqual(play.engine.log()[-1], ("throw", 0, (1,)))
        play.refuse("throw", 1)
        play.refuse("enter", 1, 0)
        play.do("enter", 2, 0)
        play.do("throw", 2)
        self.assertEqual(play.engine.frames(), [("plain", "main", 0)])
        self.assertEqual(play.do("put", self.version(), ()), 3)
        play.do("enter", 3, 0)
        play.do("throw", 0)
        self.assertEqual(play.engine.frames(), [("point", 3, 0)])

    def test_watched_facts_broken_by_plain_steps(self):
        play = self.play(self.PIECE.program, [YES])
        play.until(("plain", "main", 1))
        for watched in ([("global", "g", YES)], [], [("global", "g", YES), ("global", "g", YES)]):
            play.do("put", self.version(*watched), ())
        play.refuse("put", self.version(("global", "g", NO)), ())
        # A put of an equal value breaks nothing.
        play.until(("plain", "f", 0))
        self.assertEqual([told[2] for told in play.engine.versions()], [True] * 3)
        self.assertEqual(play.engine.log()[-1], ("step", 1, ()))

    def test_each_watched_fact(self):
        piece = Piece("fun main(a, b) {$g = a; a.f = b; drop a.f; a.e = b; return a;}")
        objects = [(None, (("f", NO), ("e", YES))), (None, ())]
        facts = [("global", "g", YES), ("global", "h", ("name", "n")), ("slot", "o", "f", NO), ("slot", "o", "e", YES),
                 ("holds", "o", (None, ("f", "e"))), ("holds", "n", (None, ()))]
        play = Play(self, engine_at(piece, (obj(0), NO), objects, {"g": YES, "h": obj(1)}))
        for fact in facts:
            play.do("put", with_part(slow(piece.program, "main"), names=["n", "o"], watched=[fact]), (1, 0))
        gone = []
        while play.engine.end() is None:
            play.do("step")
            gone.append(play.engine.log()[-1])
        self.assertEqual(gone, [("step", 1, (0,)), ("step", 1, ()), ("step", 1, (2, 4)), ("step", 1, (3,)),
                                ("step", 1, ())])
        self.assertEqual([told[2] for told in play.engine.versions()], [False, True, False, False, False, True])

    def test_what_held_in_between_does_not_matter(self):
        piece = Piece("fun main(a, b) {$g = a; $g = b; return a;}")
        version = gone_on(piece.program, slow(piece.program, "main"), 2)
        play = Play(self, engine_at(piece, (NO, YES), told={"g": YES}))
        play.do("put", with_part(version, watched=[("global", "g", YES)]), ())
        play.do("put", version, ())
        play.do("enter", 1, 0)
        self.assertEqual(play.do("step"), 2)
        self.assertEqual(play.engine.log()[-1], ("step", 2, ()))

    def test_the_own_version_is_thrown_away_by_a_step(self):
        play = Play(self, engine_at(self.PIECE, (NO,), told={"g": YES}))
        play.do("put", self.version(("global", "g", YES)), ())
        play.do("enter", 0, 0)
        self.assertEqual(play.do("step"), 1)
        self.assertEqual(play.engine.log()[-1], ("step", 1, (0,)))
        self.assertEqual(play.engine.frames(), [("plain", "main", 1)])

    def test_waiting_in_a_version_that_was_thrown_away(self):
        play = self.play(self.PIECE.program, [NO])
        play.do("put", self.version(), ())
        play.do("enter", 0, 0)
        play.until(("plain", "f", 0))
        waiting = play.engine.frames()[0]
        play.do("throw", 0)
        self.assertEqual(play.engine.frames()[0], waiting)
        play.do("step")
        self.assertEqual(play.engine.frames()[0], waiting)
        # The value is put into the register of the call, and then the frame is plain.
        play.do("step")
        self.assertEqual(len(play.engine.frames()), 1)
        self.assertEqual(play.last()[:2], ("plain", "main"))
        self.assertEqual(play.engine.rebuilt().frames()[0][2][1], NO)
        while play.engine.end() is None:
            play.do("step")

    def test_thrown_through_a_version_that_was_thrown_away(self):
        play = self.play()
        play.do("put", slow(PROGRAM, "main"), ())
        play.do("enter", 0, 0)
        play.until(("plain", "bad", 1))
        play.do("throw", 0)
        self.assertEqual(play.engine.frames()[0][:2], ("call", 0))
        play.do("step")
        self.assertEqual(play.engine.frames()[0][:2], ("plain", "main"))
        while play.engine.end() is None:
            play.do("step")

    def test_a_step_that_ends_the_engine(self):
        piece = Piece("fun main(a) {$g = a; return a;}")
        play = Play(self, engine_at(piece, (NO,), told={"g": YES}))
        version = gone_on(piece.program, slow(piece.program, "main"), 2)
        play.do("put", with_part(slow(piece.program, "main"), watched=[("global", "g", YES)]), ())
        play.do("put", version, ())
        play.do("enter", 1, 0)
        self.assertEqual(play.do("step"), 2)
        self.assertIsNotNone(play.engine.end())
        self.assertEqual(play.engine.log()[-1], ("step", 2, (0,)))
        # Behind the end, versions can still be put in and thrown away, and cells be cleared.
        self.assertEqual(play.do("put", version, ()), 2)
        play.do("throw", 2)
        self.assertEqual([told[2] for told in play.engine.versions()], [False, True, False])
        play = self.play()
        while play.engine.end() is None:
            play.do("step")
        play.do("clear", "main", 8)

    def test_put_in_twice(self):
        play = self.play(self.PIECE.program, [YES])
        version = self.version()
        self.assertEqual([play.do("put", version, ()) for _ in range(2)], [0, 1])
        play.do("enter", 1, 0)
        play.do("throw", 0)
        self.assertEqual(play.last(), ("point", 1, 0))
        play.do("throw", 1)
        self.assertEqual(play.last(), ("plain", "main", 0))
        self.assertEqual(play.do("put", version, ()), 2)
        self.assertEqual([told[2] for told in play.engine.versions()], [False, False, True])


class StuckVersions(EngineTest):
    def test_stuck(self):
        piece = Piece("fun main(a) {show a; if a {return a;} return a;}")
        version = piece.version([("show", 0), ("put", "g", 0), ("test", 0, 5), ("stop", piece.end(1, 1)),
                                 ("stop", piece.end(1, 1))])
        engine = engine_of(piece.program, [num(1)])
        engine.do(("put", version, ()))
        engine.do(("enter", 0, 0))
        twin = engine.twin()
        for _ in range(2):
            self.assertTrue(can_do(engine, ("step",)))
            with self.assertRaises(StuckRow) as caught:
                engine.do(("step",))
            self.assertEqual(caught.exception.number, 3)
            self.assertEqual(engine, twin)
            self.assertEqual((engine.log(), engine.table(), engine.shown()), (twin.log(), twin.table(), []))
        engine.do(("back",))
        engine.do(("step",))
        self.assertEqual(engine.shown(), [num(1)])

    def test_stuck_loads(self):
        piece = Piece("fun main(a) {let b = a.f; return b;}")
        load = piece.version([("load", 1, 0, ("n", ("f",)), "f"), ("link", 1, 1)], names=["n"], points=[(1, ())])
        objects = [(None, (("f", YES),)), (0, (("f", NO),))]
        for number, is_stuck in ((0, True), (1, False)):
            engine = engine_at(piece, (obj(number),), objects, {"h": obj(0)})
            engine.do(("put", load, (0,)))
            engine.do(("enter", 0, 0))
            if is_stuck:
                with self.assertRaises(StuckRow) as caught:
                    engine.do(("step",))
                self.assertEqual(caught.exception.number, 1)
            else:
                engine.do(("step",))
                self.assertEqual(engine.rebuilt().frames(), [("main", 1, (NONE, NO, NONE))])


class Choices(EngineTest):
    def test_choices_that_cannot_be_made(self):
        play = self.play()
        play.do("put", slow(PROGRAM, "main"), ())
        play.do("put", slow(PROGRAM, "inc"), ())
        for choice in (("back",), ("enter", 0, 1), ("enter", 1, 0), ("enter", 2, 0), ("enter", 0, 99),
                       ("clear", "main", 0), ("clear", "zz", 3),
                       ("clear", "main", 99), ("throw", 2), ("throw", -1), ("throw", True),
                       ("put", slow(PROGRAM, "main"), (0,)), ("put", None, ()),
                       ("step", 1), ("enter", 0), (), ("steps",)):
            play.refuse(*choice)
        play.do("enter", 0, 0)
        play.refuse("enter", 0, 0)
        for value in STRANGE + (["step"], "step", [("step",)], Shapes(), slow(PROGRAM, "main")):
            with self.assertRaises(BadChoice):
                play.engine.do(value)
            self.assertFalse(can_do(play.engine, value))

    def test_what_do_returns(self):
        play = self.play()
        self.assertEqual(play.do("step"), 1)
        self.assertEqual([play.do("put", slow(PROGRAM, name), ()) for name in PROGRAM.names()], [0, 1, 2])
        self.assertEqual(play.do("clear", "main", 3), 0)
        self.assertEqual(play.do("enter", 0, 1), 0)
        self.assertEqual(play.do("throw", 0), 0)
        self.assertEqual(play.engine.log(),
                         [("step", 1, ())] + [("put", 0, ())] * 3 + [("clear", 0, ()), ("enter", 0, ()),
                                                                     ("throw", 0, (0,))])


class TwinsAndEquality(EngineTest):
    def filled(self):
        play = self.play()
        play.do("put", slow(PROGRAM, "main"), ())
        play.do("put", slow(PROGRAM, "inc"), ())
        play.until(("plain", "inc", 0))
        return play.engine

    def test_equal(self):
        engine = self.filled()
        self.assertEqual(engine, engine)
        self.assertEqual(engine, self.filled())
        self.assertEqual(engine, engine.twin())
        self.assertIsNot(engine.twin(), engine)
        self.assertIsInstance(engine.twin(), Engine)
        self.assertEqual(engine.twin().twin(), engine)

    def test_not_equal_to_anything_else(self):
        for value in STRANGE + (engine_of().rebuilt(), Shapes(), PROGRAM, slow(PROGRAM, "main")):
            self.assertNotEqual(engine_of(), value)
            self.assertFalse(engine_of() == value)

    def test_each_part(self):
        for choice in (("step",), ("enter", 1, 0), ("clear", "main", 8), ("put", slow(PROGRAM, "bad"), ()),
                       ("throw", 0)):
            engine, other = self.filled(), self.filled()
            other.do(choice)
            self.assertNotEqual(engine, other)
            engine.do(choice)
            self.assertEqual(engine, other)
        self.assertNotEqual(engine_of(most=1), engine_of(most=2))
        self.assertNotEqual(engine_of(arguments=[YES]), engine_of(arguments=[NO]))
        # The log alone: a version that was entered and left again.
        engine, other = self.filled(), self.filled()
        other.do(("enter", 1, 0))
        other.do(("back",))
        self.assertNotEqual(engine, other)
        # Globals, shown values and objects alone.
        piece = Piece("fun main(a) {return a;}")
        engine = engine_at(piece, (YES,), [(None, (("f", YES),))], {"g": YES})
        self.assertEqual(engine, engine_at(piece, (YES,), [(None, (("f", YES),))], {"g": YES}))
        for objects, told in (([(None, (("f", NO),))], {"g": YES}), ([(None, (("f", YES),))], {"g": NO}),
                              ([], {"g": YES}), ([(None, ())], {"g": YES})):
            self.assertNotEqual(engine, engine_at(piece, (YES,), objects, told))
        # The versions alone, or the cell that was cleared.
        for one, two in ((("put", slow(PROGRAM, "bad"), ()), ("put", slow(PROGRAM, "inc"), ())),
                         (("clear", "main", 8), ("clear", "main", 3))):
            engine, other = self.filled(), self.filled()
            engine.do(one)
            other.do(two)
            self.assertEqual((engine.log(), engine.frames()), (other.log(), other.frames()))
            self.assertNotEqual(engine, other)
        # A cell that was cleared has the same entries again, but more rises.
        engine, other = self.filled(), self.filled()
        for one, choices in ((engine, [("clear", "inc", 0), ("step",)]), (other, [("step",), ("clear", "inc", 0)])):
            for choice in choices:
                one.do(choice)
        self.assertNotEqual(engine, other)

    def test_registers_that_are_not_live(self):
        """Two engines whose rebuilt states are equal, but not the quick registers."""
        piece = Piece("fun main(a, b) {if b {show a;} show b; return b;}")
        made = []
        both = Version("main", [], [], 7, [("point", 0), ("move", 5, 1), ("link", 3, 1), ("point", 1),
                                           ("stop", piece.end(0, 3))],
                       [(0, (), piece.places(0)), (3, (), piece.places(3))])
        for value in (YES, num(1)):
            engine = engine_at(piece, (value, NO))
            engine.do(("put", both, ()))
            engine.do(("enter", 0, 0))
            engine.do(("step",))
            made.append(engine)
        self.assertEqual(made[0].frames(), [("point", 0, 1)])
        self.assertEqual(made[0].rebuilt(), made[1].rebuilt())
        self.assertNotEqual(made[0], made[1])

    def test_numbers_of_shapes_do_not_count(self):
        """One engine comes to a shape that the other one never has; the versions are not closed, but count the same."""
        for text in ("fun main(a) {a.e = a; return a;}", "fun main(a) {let o = new(a); let b = o.f; return b;}"):
            self.compare_numbers(Piece(text))

    def compare_numbers(self, piece):
        end, places = piece.end(0, 0), [(0, (), piece.places(0))] * 2
        changing = [("point", 0), ("set", 0, "x", 0, end), ("link", 1, 1), ("point", 1), ("drop", 0, "x", end),
                    ("link", 1, 0)]
        idle = [("point", 0), ("link", 1, 1), ("point", 1), ("link", 1, 0)]
        made = []
        for v in (0, 1):
            engine = engine_at(piece, (obj(0),), [(None, (("f", YES),))])
            for rows in (changing, idle):
                engine.do(("put", Version("main", [], [], 3, rows, places), ()))
            for choice in (("enter", v, 0), ("step",), ("step",), ("back",), ("step",), ("step",)):
                engine.do(choice)
            made.append(engine)
        cells = [list(engine.cells().values()) for engine in made]
        self.assertNotEqual(cells[0], cells[1])
        self.assertIn(cells, ([[[(0, ("grow", 2, 1))]], [[(0, ("grow", 1, 1))]]],
                              [[[(2, ("up", ((0, 0),), 0))]], [[(1, ("up", ((0, 0),), 0))]]]))
        self.assertNotEqual(made[0].table(), made[1].table())
        self.assertEqual(made[0], made[1])

    def test_twins_change_alone(self):
        engine = self.filled()
        kept = engine.twin()
        twin = engine.twin()
        for choice in (("step",), ("clear", "main", 8), ("put", slow(PROGRAM, "bad"), ()), ("throw", 0), ("step",),
                       ("step",), ("step",)):
            twin.do(choice)
            self.assertEqual(engine, kept)
            self.assertEqual(engine.table(), kept.table())
            self.assertEqual(engine.cells(), kept.cells())
        while engine.end() is None:
            engine.do(("step",))
        self.assertNotEqual(engine, kept)
        self.assertEqual(kept, self.filled())


class DrawnRuns(EngineTest):
    def test_drawn_choices_beside_the_plain_machine(self):
        """Whatever is chosen, closed versions show and end as the plain machine does."""
        words = {}
        for seed in range(16):
            draw = random.Random(seed)
            program, arguments = (PROGRAM,
                                  [num(1)]) if seed % 2 else (Program(ground(), Maker(seed).lively_functions()), [])
            play = self.play(program, arguments, draw.randint(1, 3))
            maker = Guessing(draw)
            for _ in range(110):
                choice = self.drawn(draw, play.engine, maker)
                if not can_do(play.engine, choice):
                    play.refuse(*choice)
                    choice = ("step",)
                if play.engine.end() is not None:
                    break
                play.do(*choice)
                words[choice[0]] = words.get(choice[0], 0) + 1
        self.assertEqual(set(words), {"step", "enter", "back", "clear", "put", "throw"})
        self.assertGreater(min(words.values()), 10)

    def drawn(self, draw, engine, maker):
        chance, versions = draw.random(), engine.versions()
        if chance < 0.05:
            return ("clear",) + draw.choice(list(engine.cells()) or [("main", 0)])
        if chance < 0.1 and versions:
            return ("throw", draw.randrange(len(versions)))
        if chance < 0.2:
            return ("back",)
        if chance < 0.3 and engine.end() is None and engine.frames()[-1][0] == "plain":
            return ("put",) + maker.make(engine, engine.frames()[-1][1])
        for v in range(len(versions))[::-1]:
            for k in range(len(versions[v][0].points())):
                if chance < 0.8 and can_do(engine, ("enter", v, k)):
                    return ("enter", v, k)
        return ("step",)


if __name__ == "__main__":
    unittest.main()
