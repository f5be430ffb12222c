"""Facts and whether they hold (S6.1, S6.2); shapeguess/facts.py."""

import random
import unittest

from factmodel import NAMES, VALUES, drawn_fact, holds
from samples import NONE, NO, STRANGE, WORD_OF_12, WORD_OF_13, YES, ground, num
from shapeguess.facts import fact_holds, fits, is_fact, is_watched
from shapeguess.following import scene_of
from shapeguess.shapes import Shapes
from shapeguess.signatures import Signature

GROUND = ground()
MARKS = VALUES + (num(10 ** 40), ("fun", WORD_OF_12), ("name", "a"), ("name", WORD_OF_12))
NO_MARKS = STRANGE + (
    ("obj", 0), ("tok", "far", 0), ("tok", "num", -1), ("tok", "num", True), ("name",), ("name", "A"), ("name", 0),
    ("name", "a", "b"), ("name", None), ["name", "a"], ["none"], ("bit", "maybe"), ("name", WORD_OF_13), "a", "name",
    ("tok", "bit", 0), Shapes(), ("Name", "a"), ("name", ["a"]),
)
SHAPES = ((None, ()), ("a", ()), (None, ("f",)), ("b", ("f", "a")), (WORD_OF_12, (WORD_OF_12, "b", "c", "d", "e")))
NO_SHAPES = STRANGE + (
    ("A", ()), (0, ()), (True, ()), ((), ()), (("name", "a"), ()), (None, []), (None, ["f"]), (None, ("f", "f")),
    (None, ("F",)), (None, (0,)), (None, "f"), (None, None), (None, (), ()), (None,), [None, ()], (WORD_OF_13, ()),
    (None, (WORD_OF_13,)), ("", ()), (None, ((),)), (["a"], ()), (None, ("f", ["g"])), Shapes(),
)
NO_NUMBERS = (None, True, False, -1, "", "0", "a", (), (0,), [], [0], {}, Shapes())
KINDS = ("none", "bit", "err", "fun", "obj", "num", "col")
NO_WORDS = tuple(thing for thing in STRANGE if thing != "a") + (["a"], ("a",), WORD_OF_13, Shapes())


class Forms(unittest.TestCase):
    def right(self, *facts):
        for fact in facts:
            self.assertIs(is_fact(GROUND, fact), True, fact)
            self.assertIs(is_watched(GROUND, fact), False, fact)
            self.others(fact)

    def watched(self, *facts):
        for fact in facts:
            self.assertIs(is_watched(GROUND, fact), True, fact)
            self.assertIs(is_fact(GROUND, fact), False, fact)
            self.others(fact)

    def wrong(self, *facts):
        for fact in facts:
            self.assertIs(is_fact(GROUND, fact), False, fact)
            self.assertIs(is_watched(GROUND, fact), False, fact)

    def others(self, fact):
        """A right fact that is bent as a whole."""
        self.wrong(list(fact), fact[:-1], fact + (fact[-1],), (fact,), (None,) + fact[1:], ("",) + fact[1:],
                   (fact[0] + "s",) + fact[1:], ("unlikely",) + fact[1:], ([fact[0]],) + fact[1:])

    def test_kind(self):
        for q in (0, 1, 7, 10 ** 40):
            self.right(*(("kind", q, K) for K in KINDS))
        for K in STRANGE + ("tok", "yes", "far", ("num",), ["num"], "Num", Shapes()):
            self.wrong(("kind", 0, K))
        self.wrong(*(("kind", q, "num") for q in NO_NUMBERS))

    def test_is(self):
        self.right(*(("is", q, mark) for mark in MARKS for q in (0, 3)))
        self.wrong(*(("is", 0, thing) for thing in NO_MARKS))
        self.wrong(*(("is", q, NONE) for q in NO_NUMBERS))

    def test_shape(self):
        self.right(*(("shape", q, shape) for shape in SHAPES for q in (0, 3)))
        self.wrong(*(("shape", 0, thing) for thing in NO_SHAPES))
        self.wrong(*(("shape", q, (None, ())) for q in NO_NUMBERS))

    def test_same_and_unlike(self):
        for word in ("same", "unlike"):
            self.right((word, 0, 0), (word, 0, 5), (word, 10 ** 40, 0))
            self.wrong(*((word, 0, t) for t in NO_NUMBERS))
            self.wrong(*((word, q, 0) for q in NO_NUMBERS))

    def test_global(self):
        self.watched(*(("global", g, mark) for mark in MARKS for g in ("g", WORD_OF_12)))
        self.wrong(*(("global", "g", thing) for thing in NO_MARKS))
        self.wrong(*(("global", g, NONE) for g in NO_WORDS))

    def test_holds(self):
        self.watched(*(("holds", n, shape) for shape in SHAPES for n in ("a", WORD_OF_12)))
        self.wrong(*(("holds", "a", thing) for thing in NO_SHAPES))
        self.wrong(*(("holds", n, (None, ())) for n in NO_WORDS))

    def test_slot(self):
        self.watched(*(("slot", "a", "f", mark) for mark in MARKS), ("slot", WORD_OF_12, WORD_OF_12, NONE))
        self.wrong(*(("slot", "a", "f", thing) for thing in NO_MARKS))
        self.wrong(*(("slot", n, "f", NONE) for n in NO_WORDS))
        self.wrong(*(("slot", "a", f, NONE) for f in NO_WORDS))

    def test_kinds_of_another_signature(self):
        other = Signature(["far"], {})
        self.assertTrue(is_fact(other, ("kind", 0, "far")) and is_fact(other, ("is", 0, ("tok", "far", 9))))
        self.assertTrue(is_watched(other, ("global", "g", ("tok", "far", 9))))
        for fact in (("kind", 0, "num"), ("is", 0, num(0))):
            self.assertFalse(is_fact(other, fact))
        for fact in (("global", "g", num(0)), ("slot", "a", "f", num(0))):
            self.assertFalse(is_watched(other, fact))

    def test_things_that_are_no_facts(self):
        self.wrong(*STRANGE, Shapes(), "kind", "same", ("same",), ("same", 0), (), ("kind", 0), (0, 0, 0), "abc")


# Object 0 is named a, 2 is named b; object 1 is below 0, and 3 below 1.
SCENE = (
    [(None, (("f", num(1)), ("g", ("obj", 2)))), (0, ()), (None, ()), (1, (("f", NONE),)), (0, (("g", NO), ("f", YES)))],
    {"g": YES, "h": ("obj", 0)},
    {"a": 0, "b": 2},
    [NONE, YES, YES, num(1), ("obj", 0), ("obj", 1), ("obj", 2), ("fun", "f"), ("err", "f"), ("obj", 3), ("obj", 4),
     ("obj", 0)],
)


class Holding(unittest.TestCase):
    def hold(self, *facts):
        for fact in facts:
            self.assertIs(fact_holds(SCENE, fact), True, fact)

    def hold_not(self, *facts):
        for fact in facts:
            self.assertIs(fact_holds(SCENE, fact), False, fact)

    def test_kind(self):
        for q, kind in enumerate(("none", "bit", "bit", "num", "obj", "obj", "obj", "fun", "err", "obj")):
            for other in KINDS:
                (self.hold if other == kind else self.hold_not)(("kind", q, other))
        self.hold_not(("kind", 12, "none"), ("kind", 12, "obj"), ("kind", 10 ** 40, "none"))

    def test_is(self):
        self.hold(("is", 0, NONE), ("is", 1, YES), ("is", 3, num(1)), ("is", 7, ("fun", "f")), ("is", 8, ("err", "f")),
                  ("is", 4, ("name", "a")), ("is", 6, ("name", "b")), ("is", 11, ("name", "a")))
        self.hold_not(("is", 0, NO), ("is", 1, NO), ("is", 3, num(2)), ("is", 3, ("tok", "col", 1)), ("is", 7, ("err", "f")),
                  ("is", 8, ("err", "e")), ("is", 4, ("name", "b")), ("is", 5, ("name", "a")), ("is", 0, ("name", "a")))
        self.hold_not(("is", 4, ("name", "c")), ("is", 0, ("name", "c")), ("is", 12, NONE), ("is", 12, ("name", "c")))

    def test_shape(self):
        self.hold(("shape", 4, (None, ("f", "g"))), ("shape", 5, ("a", ())), ("shape", 6, (None, ())),
                  ("shape", 10, ("a", ("g", "f"))))
        self.hold_not(("shape", 4, (None, ("g", "f"))), ("shape", 4, (None, ("f",))), ("shape", 4, ("a", ("f", "g"))),
                  ("shape", 4, (None, ("f", "g", "h"))), ("shape", 5, (None, ())), ("shape", 5, ("b", ())),
                  ("shape", 5, ("a", ("f",))), ("shape", 6, ("b", ())), ("shape", 0, (None, ())),
                  ("shape", 12, (None, ())), ("shape", 5, ("c", ())), ("shape", 6, ("c", ())),
                  # The parent of object 3 has no name.
                  ("shape", 9, (None, ("f",))), ("shape", 9, ("a", ("f",))), ("shape", 9, ("b", ("f",))))

    def test_same_and_unlike(self):
        rows = ((1, 2, True), (0, 1, False), (4, 11, True), (4, 5, False), (7, 8, False), (0, 0, True), (3, 1, False))
        for q, t, is_same in rows:
            for one, other in ((q, t), (t, q)):
                (self.hold if is_same else self.hold_not)(("same", one, other))
                (self.hold_not if is_same else self.hold)(("unlike", one, other))
        for word in ("same", "unlike"):
            self.hold_not((word, 0, 12), (word, 12, 0), (word, 12, 12), (word, 12, 13))

    def test_global(self):
        self.hold(("global", "g", YES), ("global", "h", ("name", "a")))
        self.hold_not(("global", "g", NO), ("global", "g", NONE), ("global", "h", ("name", "b")), ("global", "i", NONE),
                  ("global", "g", ("name", "a")), ("global", "h", ("name", "c")), ("global", "i", ("name", "c")))

    def test_holds(self):
        self.hold(("holds", "a", (None, ("f", "g"))), ("holds", "b", (None, ())))
        self.hold_not(("holds", "a", (None, ("g", "f"))), ("holds", "a", (None, ())), ("holds", "a", ("b", ("f", "g"))),
                  ("holds", "b", ("b", ())), ("holds", "c", (None, ())), ("holds", "b", ("c", ())))
        scene = ([(1, ()), (None, ())], {}, {"a": 0, "b": 1}, [])
        self.assertTrue(fact_holds(scene, ("holds", "a", ("b", ()))))
        self.assertFalse(fact_holds(scene, ("holds", "a", (None, ()))))
        self.assertFalse(fact_holds(([(1, ()), (None, ())], {}, {"a": 0}, []), ("holds", "a", ("b", ()))))

    def test_slot(self):
        self.hold(("slot", "a", "f", num(1)), ("slot", "a", "g", ("name", "b")))
        self.hold_not(("slot", "a", "f", num(2)), ("slot", "a", "g", ("name", "a")), ("slot", "a", "h", NONE),
                  ("slot", "b", "f", num(1)), ("slot", "c", "f", num(1)), ("slot", "a", "g", ("name", "c")),
                  ("slot", "a", "g", num(1)))
        # Only an own field counts.
        scene = ([(1, ()), (None, (("f", NONE),))], {}, {"a": 0}, [])
        self.assertFalse(fact_holds(scene, ("slot", "a", "f", NONE)))

    def test_fits(self):
        facts = [("kind", 0, "none"), ("global", "g", YES), ("slot", "a", "f", num(1))]
        self.assertIs(fits(SCENE, facts), True)
        self.assertIs(fits(SCENE, tuple(facts)), True)
        self.assertIs(fits(SCENE, []), True)
        for at in range(3):
            for wrong in (("same", 0, 1), ("kind", 99, "none"), ("holds", "c", (None, ()))):
                self.assertIs(fits(SCENE, facts[:at] + [wrong] + facts[at:]), False)

    def test_scenes_of_tuples(self):
        scene = (tuple(SCENE[0]), SCENE[1], SCENE[2], tuple(SCENE[3]))
        for fact in (("kind", 3, "num"), ("shape", 5, ("a", ())), ("slot", "a", "g", ("name", "b"))):
            self.assertTrue(fact_holds(scene, fact))

    def test_drawn_facts_in_drawn_scenes(self):
        drawn = random.Random(3)
        counts = [0, 0]
        for _ in range(1500):
            scene = scene_of([("same", 3, 3)] + [drawn_fact(drawn) for _ in range(drawn.randint(0, 5))])
            if scene is None:
                continue
            for name in NAMES:
                if name not in scene[2]:
                    scene[0].append((None, ()))
                    scene[2][name] = len(scene[0]) - 1
            for _ in range(20):
                fact = drawn_fact(drawn)
                told = fact_holds(scene, fact)
                self.assertIs(told, bool(holds(scene, fact)), (scene, fact))
                counts[told] += 1
        self.assertGreater(min(counts), 300)


if __name__ == "__main__":
    unittest.main()
