"""What can be chosen (S10.2, S10.5, S10.6); shapeguess/choices.py."""

import unittest

from enginetools import Play
from pieces import Piece, val
from samples import NO, NONE, STRANGE, YES, ground_book, num, program_of
from shapeguess.choices import can_do
from shapeguess.engine import Engine
from shapeguess.errors import BadChoice
from shapeguess.quick import Version
from shapeguess.shapes import Shapes
from shapeguess.slow import slow
from shapeguess.states import State, start
from shapeguess.trees import Program
from slowversion import parts_of, with_part

BOOK = ground_book()
PIECE = Piece("fun main(a, b) {let c = a.f; show c; a.f = b; let d = call &f(b); show a.m(b); return d;} fun f(x) {return x;}")
OBJECTS = [(None, (("f", YES),)), (0, (("e", NO),)), (None, ()), (1, (("d", ("obj", 4)),)), (None, ()), (None, ())]


def obj(number):
    return ("obj", number)


def engine_of(a=obj(1), b=NO, told=None, shown=()):
    """Objects 0 and 1 are reached from the frame, 2 and 3, 1, 0 and 4 from the rest; 5 is reached from nowhere."""
    rest = (NONE,) * (PIECE.code.registers() - 2)
    return Engine(State(PIECE.program, BOOK, [("main", 0, (a, b) + rest)], OBJECTS, told or {"g": obj(2), "h": YES},
                        list(shown)), 2)


class CanTest(unittest.TestCase):
    def yes(self, engine, *choice):
        self.assertIs(can_do(engine, choice), True)
        twin = engine.twin()
        self.assertIs(can_do(twin, choice), True)
        twin.do(choice)
        self.assertNotEqual(twin, engine)

    def no(self, engine, *choice):
        self.not_this(engine, choice)

    def not_this(self, engine, choice):
        twin = engine.twin()
        self.assertIs(can_do(engine, choice), False)
        with self.assertRaises(BadChoice):
            engine.do(choice)
        self.assertEqual(engine, twin)
        self.assertEqual(engine.table(), twin.table())


class NoChoices(CanTest):
    def test_things_of_every_kind(self):
        engine = engine_of()
        engine.do(("put", slow(PIECE.program, "main"), ()))
        for value in STRANGE + ("step", ["step"], [("step",)], (("step",),), Shapes(), engine, PIECE.program,
                                slow(PIECE.program, "main"),
                                engine.rebuilt(), ("step", "step"), ("step", ()), (["step"],), ("Step",), ("", 0),
                                (0,), (None,), (("step",), 0),
                                ({"step": 1},), ("back", 0), ("enter",), ("enter", 0), ("enter", 0, 0, 0),
                                ("clear", "main"), ("clear", "main", 0, 0),
                                ("put", slow(PIECE.program, "main")), ("put", slow(PIECE.program, "main"), (), ()),
                                ("throw",), ("throw", 0, 0),
                                ["enter", 0, 0], ["throw", 0], ["clear", "main", 0],
                                ["put", slow(PIECE.program, "main"), ()]):
            self.not_this(engine, value)

    def test_members_of_every_kind(self):
        engine = engine_of()
        engine.do(("put", slow(PIECE.program, "main"), ()))
        for value in STRANGE + (Shapes(), engine, slow(PIECE.program, "main"), ("step",), [0], (0,), -1, 1, 10 ** 40):
            self.no(engine, "enter", value, 0)
            self.no(engine, "enter", 0, value)
            self.no(engine, "throw", value)
            self.no(engine, "clear", value, 0)
            self.no(engine, "clear", "main", value)
            if not isinstance(value, Version):
                self.no(engine, "put", value, ())
            if value != ():
                self.no(engine, "put", slow(PIECE.program, "main"), value)


class StepsAndFrames(CanTest):
    def test_step_and_back(self):
        engine = engine_of()
        engine.do(("put", slow(PIECE.program, "main"), ()))
        self.yes(engine, "step")
        self.no(engine, "back")
        engine.do(("enter", 0, 0))
        self.yes(engine, "step")
        self.yes(engine, "back")
        while engine.end() is None:
            engine.do(("step",))
        self.no(engine, "step")
        self.no(engine, "back")
        self.no(engine, "enter", 0, 0)

    def test_back_where_a_version_waits(self):
        engine = engine_of()
        engine.do(("put", slow(PIECE.program, "main"), ()))
        engine.do(("enter", 0, 0))
        while len(engine.frames()) == 1:
            engine.do(("step",))
        self.assertEqual([frame[0] for frame in engine.frames()], ["call", "plain"])
        self.no(engine, "back")

    def test_enter(self):
        engine = engine_of()
        for function in ("main", "f"):
            engine.do(("put", slow(PIECE.program, function), ()))
        self.yes(engine, "enter", 0, 0)
        # Another row, another function, a version or a point that does not exist.
        for v, k in ((0, 1), (1, 0), (2, 0), (0, len(slow(PIECE.program, "main").points()))):
            self.no(engine, "enter", v, k)
        engine.do(("step",))
        self.no(engine, "enter", 0, 0)
        self.yes(engine, "enter", 0, 1)
        engine.do(("throw", 0))
        self.no(engine, "enter", 0, 1)

    def test_enter_where_facts_and_places_fit(self):
        stop = ("stop", PIECE.end(0, 0))
        for facts, names, objects, fits in (
            ([("kind", 0, "obj")], [], (), True), ([("kind", 0, "num")], [], (), False),
                                            ([("is", 0, ("name", "n"))], ["n"], (1,), True),
            ([("is", 0, ("name", "n"))], ["n"], (0,), False), ([("shape", 0, ("n", ("e",)))], ["n"], (0,), True),
            ([("shape", 0, ("n", ("e",)))], ["n"], (2,), False), ([("unlike", 0, 1)], [], (), True),
                                            ([("same", 0, 1)], [], (), False),
        ):
            engine = engine_of()
            engine.do(("put", PIECE.version([stop], facts, names), objects))
            (self.yes if fits else self.no)(engine, "enter", 0, 0)
        for place, fits in ((val(NO), True), (val(YES), False), (("name", "n"), False)):
            engine = engine_of()
            places = PIECE.places(0, r1=place)
            version = Version("main", ["n"], [], 6, [("point", 0), ("stop", (0, (("main", 0, places),)))],
                              [(0, (), places)])
            engine.do(("put", version, (2,)))
            (self.yes if fits else self.no)(engine, "enter", 0, 0)


class Clearing(CanTest):
    def test_cells(self):
        engine = engine_of()
        words = {at: row[0] for at, row in enumerate(PIECE.code.rows())}
        for at, word in words.items():
            if word in ("get", "set", "method"):
                self.yes(engine, "clear", "main", at)
            else:
                self.no(engine, "clear", "main", at)
        self.assertTrue({"get", "set", "method", "call", "show", "const"} <= set(words.values()))
        for function, row in (("f", 0), ("zz", 0), ("main", -1), ("main", True), ("main", False), ("main", None),
                              (None, 0), (("main",), 0),
                              ("main", (0,)), (["main"], 0), ("main", [0])):
            self.no(engine, "clear", function, row)
        while engine.end() is None:
            engine.do(("step",))
        self.yes(engine, "clear", "main", 0)


class Putting(CanTest):
    def version(self, **more):
        return PIECE.version([("stop", PIECE.end(0, 0))], **more)

    def test_versions_that_are_not_right(self):
        engine = engine_of()
        good = self.version(names=["n"], watched=[("holds", "n", (None, ()))])
        self.yes(engine, "put", good, (2,))
        for bent in (
            {"function": "zz"}, {"function": None}, {"names": ["n", "n"]}, {"names": ("n",)[0]}, {"names": ["N"]},
                     {"watched": [None]},
            {"watched": [("holds", "o", (None, ()))]}, {"registers": -1}, {"registers": True}, {"registers": None},
                     {"rows": []},
            {"rows": [("point", 0)]}, {"rows": [("stop", PIECE.end(0, 0))]}, {"rows": [("point", 0), ("link", 0, 0)]},
            {"rows": [("point", 0), ("jump", 1)]}, {"rows": None}, {"points": []}, {"points": None},
                     {"points": [None]}, {"function": "f"},
            {"rows": [("point", 0), ("stop", PIECE.end(0, 1))]},
                     {"rows": [("point", 0), ("show", 5), ("stop", PIECE.end(0, 0))]},
        ):
            self.no(engine, "put", with_part(good, **bent), (2,))
        for value in (None, parts_of(good), tuple(parts_of(good)), PIECE.program, engine):
            self.no(engine, "put", value, (2,))

    def test_a_version_of_another_program(self):
        other = program_of("fun main(a, b) {show a; return b;}")
        self.no(engine_of(), "put", slow(other, "main"), ())
        same = Program(PIECE.program.signature(), PIECE.program.functions())
        self.yes(engine_of(), "put", slow(same, "main"), ())

    def test_tokens(self):
        engine = engine_of()
        end = PIECE.end(0, 0)
        for number, fine in ((2, True), (3, False), (10 ** 30, False)):
            token = num(number)
            places, point = PIECE.places(0, r1=val(token)), (0, (), PIECE.places(0))
            rows = [("point", 0), ("stop", end), ("point", 1), ("stop", (0, (("main", 0, places),)))]
            for version in (
                PIECE.version([("const", 5, token), ("stop", end)]), self.version(facts=[("is", 1, token)]),
                PIECE.version([("check", ("is", 0, token), end), ("stop", end)]),
                            PIECE.version([("stop", PIECE.end(0, 0, r0=val(token)))]),
                Version("main", [], [], 5, rows, [point, (0, (), places)]),
                Version("main", [], [], 5, rows[:3] + [("stop", PIECE.end(0, 0, r1=val(NONE)))],
                        [point, (0, (), places)]),
            ):
                (self.yes if fine else self.no)(engine, "put", version, ())
        for fact in (("global", "g", num(3)), ("slot", "n", "f", num(3))):
            self.no(engine, "put", self.version(names=["n"], watched=[fact]), (0,))
        # Words of fields do not make tokens.
        self.yes(engine, "put", PIECE.version([("check", ("shape", 0, ("tok", ("num", "tok"))), end), ("stop", end)],
                                              names=["tok"]), (0,))

    def test_objects(self):
        engine = engine_of()
        one, two = self.version(names=["n"]), self.version(names=["n", "o"])
        for number in (0, 1, 2):
            self.yes(engine, "put", one, (number,))
        # Objects 3 and 4 are reached from nowhere yet, nor is 5; there is no object 6.
        for objects in ((3,), (4,), (5,), (6,), (-1,), (True,), (False,), ("0",), (None,), ((0,),), ([0],),
                        (10 ** 40,), (), (0, 1), [0], {0: 0},
                        None, 0, "0", Shapes()):
            self.no(engine, "put", one, objects)
        for objects in ((0, 1), (2, 0)):
            self.yes(engine, "put", two, objects)
        for objects in ((0, 0), (0,), (0, 1, 2), (0, True), (1, True), (0, 5), [0, 1]):
            self.no(engine, "put", two, objects)
        self.no(engine, "put", self.version(), (0,))
        self.yes(engine, "put", self.version(), ())

    def test_objects_that_are_reached(self):
        one = self.version(names=["n"])
        reached = {
            "frame": engine_of(a=obj(3)), "global": engine_of(told={"g": obj(3)}), "shown": engine_of(shown=[obj(3)]),
                   "b": engine_of(b=obj(3)),
        }
        for engine in reached.values():
            # From object 3 its parents and the contents of its fields.
            for number in (3, 1, 0, 4):
                self.yes(engine, "put", one, (number,))
            self.no(engine, "put", one, (5,))
        # A register that is not live reaches nothing, and neither does what a version does not tell.
        rest = (obj(5),) * (PIECE.code.registers() - 2)
        engine = Engine(State(PIECE.program, BOOK, [("main", 0, (obj(1), NO) + rest)], OBJECTS, {}, []), 1)
        self.no(engine, "put", one, (5,))
        engine.do(("put", slow(PIECE.program, "main"), ()))
        engine.do(("enter", 0, 0))
        self.yes(engine, "put", one, (1,))
        self.no(engine, "put", one, (2,))

    def test_watched_facts(self):
        engine = engine_of()
        for fact, objects, holds in (
            (("global", "h", YES), (0, 1), True), (("global", "h", NO), (0, 1), False),
                                     (("global", "k", YES), (0, 1), False),
            (("global", "g", ("name", "n")), (2, 1), True), (("global", "g", ("name", "n")), (0, 1), False),
            (("holds", "n", (None, ("f",))), (0, 1), True), (("holds", "n", (None, ("f",))), (1, 0), False),
                                     (("holds", "o", ("n", ("e",))), (0, 1), True),
            (("holds", "o", ("n", ("e",))), (2, 1), False), (("slot", "n", "f", YES), (0, 1), True),
                                     (("slot", "n", "f", NO), (0, 1), False),
            (("slot", "n", "e", NO), (0, 1), False), (("slot", "o", "e", NO), (0, 1), True),
        ):
            version = self.version(names=["n", "o"], watched=[fact])
            (self.yes if holds else self.no)(engine, "put", version, objects)
            both = self.version(names=["n", "o"], watched=[("global", "h", YES), fact])
            (self.yes if holds else self.no)(engine, "put", both, objects)

    def test_facts_of_points_need_not_hold(self):
        self.yes(engine_of(), "put", self.version(facts=[("kind", 0, "num"), ("kind", 0, "col")]), ())

    def test_behind_the_end(self):
        program = program_of("fun main(a) {return a;}")
        engine = Engine(start(program, BOOK, "main", [YES]), 1)
        engine.do(("step",))
        self.yes(engine, "put", slow(program, "main"), ())
        engine.do(("put", slow(program, "main"), ()))
        self.no(engine, "enter", 0, 0)
        self.yes(engine, "throw", 0)


class Throwing(CanTest):
    def test_versions_that_are_in(self):
        play = Play(self, engine_of())
        for _ in range(2):
            play.do("put", slow(PIECE.program, "main"), ())
        for v in (0, 1):
            self.yes(play.engine, "throw", v)
        play.do("throw", 0)
        self.no(play.engine, "throw", 0)
        self.yes(play.engine, "throw", 1)
        for v in (2, -1, True, False, None, "1", [1], (1,), 10 ** 40):
            self.no(play.engine, "throw", v)


if __name__ == "__main__":
    unittest.main()
