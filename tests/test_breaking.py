"""Which rows can be finished and what they can break (S6.5, S6.6); shapeguess/breaking.py."""

import random
import unittest

from factmodel import VALUES, carried_out, drawn_fact, drawn_row, holds, kind
from samples import NONE, NO, YES, ground, num
from shapeguess.breaking import broken_by, can_finish
from shapeguess.facts import fits
from shapeguess.following import contradictory, scene_of

GROUND = ground()
PLAIN = (None, ())
WITH_F = (None, ("f",))
# One fact of each word about register 0, the name a, the field f and the global g; register 3 is never written.
REGISTER_FACTS = (("kind", 0, "num"), ("is", 0, num(1)), ("shape", 0, WITH_F), ("same", 0, 3), ("unlike", 0, 3))
WATCHED_FACTS = (("global", "g", num(1)), ("holds", "a", WITH_F), ("slot", "a", "f", num(1)))
OTHER_FACTS = (("kind", 3, "num"), ("is", 3, num(1)), ("shape", 3, WITH_F), ("same", 3, 4), ("unlike", 3, 4))
# Rows that write register 0, with facts under which they can be finished.
WRITING = (
    (("const", 0, NONE), []), (("move", 0, 5), [("is", 5, NONE)]), (("global", 0, "h"), []),
    (("get", 0, 5, "q"), []), (("new", 0, 5), []), (("prim", 0, "less", (5, 6)), []), (("same", 0, 5, 6), []),
    (("call", 0, 5, ()), []), (("method", 0, 5, "q", (6,)), []),
)


class BreakTest(unittest.TestCase):
    def breaks(self, facts, row, *broken):
        """A row can be finished and breaks just these facts, in the order of the list."""
        for given in (list(facts), tuple(facts)):
            self.assertIs(can_finish(GROUND, given, row), True, (facts, row))
            told = broken_by(GROUND, given, row)
            self.assertEqual((told, type(told)), (list(broken), list), (facts, row))

    def stops(self, facts, row):
        """A row cannot be finished."""
        self.assertIs(can_finish(GROUND, facts, row), False, (facts, row))
        self.assertEqual(broken_by(GROUND, facts, row), [], (facts, row))


class Finishing(BreakTest):
    def test_rows_that_never_throw(self):
        for row in (("const", 0, NONE), ("move", 0, 1), ("put", "g", 0), ("same", 0, 1, 2), ("jump", 9), ("show", 1),
                    ("global", 0, "g")):
            for facts in ([], [("is", 1, NONE)], [("global", "g", YES)], [("kind", 1, "obj")]):
                self.assertIs(can_finish(GROUND, facts, row), True)

    def test_rows_that_are_never_finished(self):
        for row in (("return", 0), ("throw", 0)):
            for facts in ([], [("is", 0, NONE)], [("kind", 0, "err")]):
                self.stops(facts, row)

    def test_contradictory_lists(self):
        facts = [("kind", 0, "num"), ("kind", 0, "col"), ("global", "g", NONE)]
        for row, _ in WRITING:
            self.stops(facts, row)
        for row in (("put", "g", 0), ("set", 1, "f", 2), ("drop", 1, "f"), ("jump", 0), ("test", 1, 0), ("show", 1)):
            self.stops(facts, row)

    def test_objects(self):
        for row in (("get", 1, 0, "f"), ("set", 0, "f", 1), ("drop", 0, "f"), ("method", 1, 0, "f", ())):
            for fact in (("kind", 0, "obj"), ("shape", 0, WITH_F), ("is", 0, ("name", "a")), ("same", 0, 3)):
                self.breaks([("kind", 9, "num"), fact][:1], row)
                self.assertTrue(can_finish(GROUND, [fact], row))
            for word in ("none", "bit", "err", "fun", "num", "col"):
                self.stops([("kind", 0, word)], row)
            for value in VALUES:
                self.stops([("is", 2, value), ("same", 2, 0)], row)

    def test_look_ups(self):
        for row in (("get", 1, 0, "f"), ("method", 1, 0, "f", (2,))):
            self.stops([("shape", 0, PLAIN)], row)
            self.stops([("shape", 0, (None, ("g", "h")))], row)
            # Up to a root that has no shape, the field may be there.
            way = [("shape", 0, ("a", ())), ("holds", "a", ("b", ("g",)))]
            for facts in (way[:1], way, way + [("holds", "b", WITH_F)], way + [("slot", "b", "f", ("fun", "z"))]):
                self.assertTrue(can_finish(GROUND, facts, row))
            self.stops(way + [("holds", "b", PLAIN)], row)
            self.stops([way[0], ("holds", "a", PLAIN)], row)
            self.assertTrue(can_finish(GROUND, [way[0], ("holds", "a", WITH_F)], row))
            # The shape of a name counts for the register that is this object.
            self.stops([("is", 0, ("name", "a")), ("holds", "a", PLAIN)], row)
            self.stops([("is", 0, ("name", "a")), ("is", 3, ("name", "a")), ("shape", 3, PLAIN)], row)
            self.assertTrue(can_finish(GROUND, [("is", 0, ("name", "b")), ("holds", "a", PLAIN)], row))

    def test_methods_that_are_no_functions(self):
        row = ("method", 1, 0, "f", ())
        named = ("is", 0, ("name", "a"))
        for value in VALUES + (("name", "a"), ("name", "b")):
            facts = [named, ("slot", "a", "f", value)]
            if value[0] == "fun":
                self.assertTrue(can_finish(GROUND, facts, row))
            else:
                self.stops(facts, row)
                self.stops([("shape", 0, ("a", ("g",))), ("slot", "a", "f", value)], row)
                # Another name, another field, or an object that may have the field itself.
                for other in ([named, ("slot", "b", "f", value)], [named, ("slot", "a", "g", value)],
                              [("kind", 0, "obj"), ("slot", "a", "f", value)],
                              [("shape", 0, ("a", ("f",))), ("slot", "a", "f", value)]):
                    self.assertTrue(can_finish(GROUND, other, row))
            self.assertTrue(can_finish(GROUND, facts, ("get", 1, 0, "f")))

    def test_drop(self):
        row = ("drop", 0, "f")
        for facts in ([], [("shape", 0, WITH_F)], [("is", 0, ("name", "a"))], [("shape", 0, ("a", ("g", "f")))],
                      [("is", 0, ("name", "a")), ("slot", "a", "f", NONE)]):
            self.assertTrue(can_finish(GROUND, facts, row))
        # Only an own field can be dropped.
        for facts in ([("shape", 0, PLAIN)], [("shape", 0, ("a", ("g",))), ("holds", "a", WITH_F)],
                      [("is", 0, ("name", "a")), ("holds", "a", PLAIN)]):
            self.stops(facts, row)
            self.assertTrue(can_finish(GROUND, facts, ("set", 0, "f", 1)))

    def test_new(self):
        row = ("new", 1, 0)
        deep = [("shape", 0, ("a", ())), ("holds", "a", ("b", ()))]
        for facts in ([], [("kind", 0, "none")], [("kind", 0, "obj")], [("is", 0, ("name", "a"))], deep[:1],
                      [("is", 0, ("name", "a")), deep[1]], [deep[0], ("holds", "a", PLAIN)]):
            self.assertTrue(can_finish(GROUND, facts, row))
        self.stops(deep, row)
        self.stops([("is", 0, ("name", "c")), ("holds", "c", ("a", ())), deep[1]], row)
        self.assertTrue(can_finish(GROUND, deep, ("new", 1, 2)))
        for word in ("bit", "err", "fun", "num", "col"):
            self.stops([("kind", 0, word)], row)

    def test_prim(self):
        for p, args, facts, told in (
            ("add", (0, 1), [], True), ("add", (0, 1), [("kind", 1, "col")], True), ("add", (0, 0), [], True),
            ("add", (0, 1), [("kind", 0, "col")], False), ("add", (0, 1), [("kind", 1, "bit")], False),
            ("add", (0, 0), [("kind", 0, "col")], False), ("add", (0, 1), [("kind", 0, "none")], False),
            # A variant of two kinds needs two registers that may differ.
            ("add", (0, 1), [("kind", 1, "col"), ("same", 0, 1)], False), ("neg", (0,), [], True),
            ("neg", (0,), [("is", 0, num(10 ** 40))], True), ("neg", (0,), [("is", 0, ("tok", "col", 0))], False),
            ("neg", (0, 1), [], False), ("add", (0,), [], False), ("idle", (0,), [], False), ("idle", (0, 1), [], False),
        ):
            self.assertIs(can_finish(GROUND, facts, ("prim", 2, p, args)), told, (p, args, facts))

    def test_test_and_call(self):
        for word in ("none", "bit", "err", "fun", "obj", "num"):
            facts = [("kind", 0, word)]
            self.assertIs(can_finish(GROUND, facts, ("test", 0, 5)), word == "bit")
            self.assertIs(can_finish(GROUND, facts, ("call", 1, 0, (2,))), word == "fun")
            self.assertTrue(can_finish(GROUND, facts, ("test", 1, 5)))
        self.assertTrue(can_finish(GROUND, [("is", 0, ("fun", "far"))], ("call", 1, 0, ())))


class Breaking(BreakTest):
    def test_each_row_that_writes_and_each_fact_of_its_register(self):
        for row, more in WRITING:
            for fact in REGISTER_FACTS + (("kind", 0, "err"), ("is", 0, ("name", "a")), ("is", 0, ("fun", "f"))):
                # A new object, a bit or none of unknown kind is unlike what register 3 is, if that is told.
                if fact[0] == "unlike" and row[0] == "new":
                    self.breaks([fact] + more, row)
                else:
                    self.breaks([fact] + more, row, fact)
            for fact in OTHER_FACTS + WATCHED_FACTS:
                if row[0] in ("call", "method") and fact[0] in ("shape", "global", "holds", "slot"):
                    self.breaks([fact] + more, row, fact)
                else:
                    self.breaks([fact] + more, row)
            self.breaks([("same", 0, 0)] + more, row)

    def test_a_known_mark(self):
        for value in VALUES:
            row = ("const", 0, value)
            self.breaks([("kind", 0, kind(value)), ("is", 0, value), ("is", 1, value), ("same", 0, 1)], row)
            self.breaks([("kind", 0, "obj")], row, ("kind", 0, "obj"))
            self.breaks([("same", 0, 1)], row, ("same", 0, 1))
            self.breaks([("same", 1, 0), ("unlike", 0, 2)], row, ("same", 1, 0), ("unlike", 0, 2))
            self.breaks([("unlike", 0, 1), ("kind", 1, "obj")], row)
            self.breaks([("unlike", 0, 1), ("is", 1, value)], row, ("unlike", 0, 1))
        self.breaks([("unlike", 0, 1), ("kind", 1, "num")], ("const", 0, num(3)), ("unlike", 0, 1))
        self.breaks([("unlike", 1, 0), ("is", 1, num(2))], ("const", 0, num(3)))
        self.breaks([("unlike", 1, 0), ("unlike", 1, 2), ("is", 2, num(3))], ("const", 0, num(3)))

    def test_a_move(self):
        row = ("move", 0, 1)
        self.breaks([("kind", 0, "num"), ("kind", 1, "num")], row)
        self.breaks([("kind", 0, "num"), ("is", 1, num(1))], row)
        self.breaks([("is", 0, num(1)), ("kind", 1, "num")], row, ("is", 0, num(1)))
        self.breaks([("shape", 0, PLAIN), ("is", 1, ("name", "a")), ("holds", "a", PLAIN)], row)
        self.breaks([("same", 0, 1)], row)
        self.breaks([("same", 0, 2), ("same", 1, 2)], row)
        self.breaks([("same", 0, 2)], row, ("same", 0, 2))
        self.breaks([("unlike", 0, 1)], row, ("unlike", 0, 1))
        self.breaks([("unlike", 0, 2), ("unlike", 2, 1)], row)
        self.breaks([("unlike", 0, 2), ("kind", 1, "num"), ("kind", 2, "col")], row)
        for fact in REGISTER_FACTS:
            self.breaks([fact], ("move", 0, 0))

    def test_a_global(self):
        row = ("global", 0, "g")
        told = ("global", "g", num(1))
        self.breaks([told, ("is", 0, num(1)), ("kind", 0, "num")], row)
        self.breaks([told, ("is", 0, num(2))], row, ("is", 0, num(2)))
        self.breaks([told, ("is", 0, num(1))], ("global", 0, "h"), ("is", 0, num(1)))
        self.breaks([("global", "g", ("name", "a")), ("holds", "a", PLAIN), ("shape", 0, PLAIN), ("kind", 0, "obj"),
                     ("unlike", 0, 1), ("kind", 1, "num")], row)
        self.breaks([("global", "g", ("name", "a")), ("unlike", 0, 1)], row, ("unlike", 0, 1))

    def test_a_get(self):
        row = ("get", 0, 1, "f")
        slot = ("slot", "a", "f", num(1))
        named = ("is", 1, ("name", "a"))
        facts = [slot, named, ("is", 0, num(1))]
        self.breaks(facts, row)
        self.breaks(facts[1:], row, facts[2])
        self.breaks([slot, facts[2]], row, facts[2])
        self.breaks([slot, named, ("unlike", 0, 2)], row, ("unlike", 0, 2))
        self.breaks([slot, named, ("unlike", 0, 2), ("is", 2, NONE)], row)
        # Through shapes that lack the field.
        self.breaks([slot, ("shape", 1, ("a", ("g",))), ("kind", 0, "num")], row)
        self.breaks([slot, ("shape", 1, ("b", ())), ("holds", "b", ("a", ())), ("kind", 0, "num")], row)
        self.breaks([slot, ("shape", 1, ("b", ())), ("kind", 0, "num")], row, ("kind", 0, "num"))
        self.breaks([slot, ("shape", 1, ("a", ("f",))), ("kind", 0, "num")], row, ("kind", 0, "num"))
        self.breaks([slot, named, ("holds", "a", WITH_F), ("kind", 0, "num")], row)
        # The register that it reads may be the one that it writes.
        self.breaks([("slot", "a", "f", ("name", "a")), ("is", 0, ("name", "a")), ("unlike", 0, 2)], ("get", 0, 0, "f"))
        self.breaks([("slot", "a", "f", num(1)), ("is", 0, ("name", "a"))], ("get", 0, 0, "f"), ("is", 0, ("name", "a")))

    def test_a_prim(self):
        row = ("prim", 0, "add", (1, 2))
        self.breaks([("kind", 0, "num")], row, ("kind", 0, "num"))
        self.breaks([("kind", 0, "num"), ("kind", 2, "num")], row)
        self.breaks([("kind", 0, "col"), ("kind", 2, "col")], row)
        self.breaks([("kind", 0, "col"), ("kind", 2, "num")], row, ("kind", 0, "col"))
        self.breaks([("is", 0, num(0)), ("kind", 2, "num"), ("is", 1, num(0))], row, ("is", 0, num(0)))
        self.breaks([("unlike", 0, 3), ("kind", 3, "obj")], row)
        self.breaks([("unlike", 0, 3), ("kind", 3, "num")], row, ("unlike", 0, 3))
        # The arguments have the kinds of the variant then.
        self.breaks([("unlike", 0, 2), ("kind", 2, "col")], row, ("unlike", 0, 2))
        self.breaks([("unlike", 0, 1), ("kind", 2, "col")], row)
        self.breaks([("kind", 0, "bit")], ("prim", 0, "less", (1, 2)))
        self.breaks([("is", 0, YES)], ("prim", 0, "less", (1, 2)), ("is", 0, YES))
        self.breaks([("unlike", 0, 1)], ("prim", 0, "less", (1, 2)))

    def test_a_same(self):
        row = ("same", 0, 1, 2)
        self.breaks([("kind", 0, "bit")], row)
        self.breaks([("is", 0, YES)], row, ("is", 0, YES))
        self.breaks([("is", 0, YES), ("same", 1, 2)], row)
        self.breaks([("is", 0, NO), ("same", 1, 2)], row, ("is", 0, NO))
        self.breaks([("is", 0, NO), ("unlike", 1, 2)], row)
        self.breaks([("is", 0, YES), ("is", 1, NONE), ("is", 2, NONE)], row)
        self.breaks([("is", 0, NO), ("kind", 1, "num"), ("kind", 2, "col")], row)
        # The result is tied to what is compared: yes comes only if 1 is 2, so that it is unlike 3 then.
        self.breaks([("unlike", 0, 3), ("is", 3, YES), ("unlike", 1, 2)], row)
        self.breaks([("unlike", 0, 3), ("is", 3, YES)], row, ("unlike", 0, 3))
        self.breaks([("unlike", 0, 1), ("is", 2, YES), ("kind", 1, "bit")], row, ("unlike", 0, 1))
        self.breaks([("same", 0, 1), ("is", 2, YES), ("kind", 1, "bit")], row)
        self.breaks([("same", 0, 1), ("is", 2, NO), ("kind", 1, "bit")], row, ("same", 0, 1))
        self.breaks([("is", 0, YES)], ("same", 0, 0, 0))
        self.breaks([("kind", 0, "num")], ("same", 0, 0, 0), ("kind", 0, "num"))

    def test_a_new(self):
        row = ("new", 0, 1)
        self.breaks([("kind", 0, "obj")], row)
        self.breaks([("kind", 0, "num")], row, ("kind", 0, "num"))
        self.breaks([("unlike", 0, 2), ("unlike", 2, 0), ("kind", 2, "obj")], row)
        self.breaks([("unlike", 0, 1)], row)
        self.breaks([("same", 0, 2)], row, ("same", 0, 2))
        self.breaks([("is", 0, ("name", "a"))], row, ("is", 0, ("name", "a")))
        self.breaks([("is", 0, ("name", "a"))], ("new", 0, 0), ("is", 0, ("name", "a")))
        self.breaks([("shape", 0, PLAIN), ("kind", 1, "none")], row)
        self.breaks([("shape", 0, PLAIN)], row, ("shape", 0, PLAIN))
        self.breaks([("shape", 0, PLAIN), ("kind", 1, "obj")], row, ("shape", 0, PLAIN))
        self.breaks([("shape", 0, WITH_F), ("kind", 1, "none")], row, ("shape", 0, WITH_F))
        below = ("shape", 0, ("a", ()))
        self.breaks([below, ("is", 1, ("name", "a"))], row)
        self.breaks([below, ("is", 1, ("name", "b"))], row, below)
        self.breaks([below, ("kind", 1, "obj")], row, below)
        self.breaks([below], row, below)
        self.breaks([below, ("kind", 1, "none")], row, below)
        self.breaks([("shape", 0, ("a", ("f",))), ("is", 1, ("name", "a"))], row, ("shape", 0, ("a", ("f",))))
        # Below an object that has one above it, but not below one that has two: then only none is left.
        self.breaks([below, ("is", 1, ("name", "a")), ("holds", "a", ("b", ()))], row)
        self.breaks([("shape", 0, PLAIN), ("unlike", 1, 2), ("is", 2, NONE)], row, ("shape", 0, PLAIN))

    def test_a_put(self):
        told = ("global", "g", num(1))
        self.breaks([told], ("put", "g", 0), told)
        self.breaks([told], ("put", "h", 0))
        self.breaks([told, ("is", 0, num(1))], ("put", "g", 0))
        self.breaks([told, ("is", 0, num(2))], ("put", "g", 0), told)
        self.breaks([told, ("kind", 0, "num")], ("put", "g", 0), told)
        named = ("global", "g", ("name", "a"))
        self.breaks([named, ("is", 0, ("name", "a"))], ("put", "g", 0))
        self.breaks([named, ("is", 0, ("name", "b"))], ("put", "g", 0), named)
        self.breaks(list(REGISTER_FACTS[:2]) + [("unlike", 0, 3)] + list(WATCHED_FACTS[1:]), ("put", "g", 3))

    def test_words_that_stand_for_two_things(self):
        # A global that is called like a name, and a field that is called like a kind, a name or a global.
        facts = [("holds", "g", WITH_F), ("slot", "g", "f", num(1)), ("kind", 0, "num"), ("global", "f", NONE)]
        self.breaks(facts, ("put", "g", 3))
        self.breaks(facts, ("set", 1, "num", 2), facts[0])
        self.breaks(facts, ("set", 1, "g", 2), facts[0])
        self.breaks(facts, ("drop", 1, "num"))
        self.breaks(facts, ("drop", 1, "g"))
        self.breaks(facts, ("drop", 1, "f"), facts[0], facts[1])

    def test_a_set(self):
        row = ("set", 1, "g", 2)
        shape, held = ("shape", 0, WITH_F), ("holds", "a", WITH_F)
        self.breaks([shape, held], row, shape, held)
        self.breaks([("shape", 0, (None, ("f", "g"))), ("holds", "a", (None, ("g",)))], row)
        # Only of the object itself.
        self.breaks([shape, ("unlike", 0, 1)], row)
        self.breaks([shape, ("is", 0, ("name", "b")), ("is", 1, ("name", "a"))], row)
        self.breaks([held, ("is", 1, ("name", "a"))], row, held)
        self.breaks([held, ("is", 1, ("name", "b"))], row)
        self.breaks([held, ("shape", 1, PLAIN)], row, ("shape", 1, PLAIN))
        self.breaks([held, shape, ("shape", 1, ("a", ("f",)))], row, ("shape", 1, ("a", ("f",))))
        self.breaks([("shape", 1, WITH_F)], row, ("shape", 1, WITH_F))
        self.breaks([held, ("is", 2, ("name", "a")), ("unlike", 1, 2)], row)
        # The slot of this field, if the new value can be another one.
        slot = ("slot", "a", "g", num(1))
        self.breaks([slot], row, slot)
        self.breaks([slot, ("is", 2, num(1))], row)
        self.breaks([slot, ("is", 2, num(2))], row, slot)
        self.breaks([slot, ("is", 1, ("name", "b"))], row)
        self.breaks([slot, ("shape", 1, WITH_F)], row, ("shape", 1, WITH_F))
        self.breaks([("slot", "a", "f", num(1))], row)
        self.breaks([("slot", "a", "g", ("name", "a"))], ("set", 1, "g", 1))
        self.breaks([("slot", "a", "g", ("name", "b"))], ("set", 1, "g", 1), ("slot", "a", "g", ("name", "b")))
        # What the value is may depend on whether the object is the one with the slot.
        self.breaks([slot, ("unlike", 1, 3), ("is", 3, ("name", "a"))], row)
        self.breaks([("kind", 1, "obj"), ("is", 2, num(1)), ("same", 0, 3), ("unlike", 0, 2), ("global", "g", YES)], row)

    def test_a_drop(self):
        row = ("drop", 1, "f")
        shape, held = ("shape", 0, WITH_F), ("holds", "a", WITH_F)
        self.breaks([shape, held], row, shape, held)
        self.breaks([("shape", 0, PLAIN), ("holds", "a", (None, ("g",)))], row)
        self.breaks([shape, ("unlike", 0, 1)], row)
        self.breaks([held, ("is", 1, ("name", "b"))], row)
        self.breaks([held, ("shape", 1, (None, ("f", "g")))], row, ("shape", 1, (None, ("f", "g"))))
        self.breaks([("shape", 1, WITH_F)], row, ("shape", 1, WITH_F))
        slot = ("slot", "a", "f", num(1))
        self.breaks([slot], row, slot)
        self.breaks([slot, ("is", 1, ("name", "a"))], row, slot)
        self.breaks([slot, ("is", 1, ("name", "b"))], row)
        self.breaks([("slot", "a", "g", num(1))], row)
        self.breaks([("kind", 1, "obj"), ("same", 0, 3), ("unlike", 0, 2), ("global", "f", YES)], row)

    def test_a_call_and_a_method(self):
        facts = list(OTHER_FACTS[:1]) + [("shape", 4, WITH_F)] + list(WATCHED_FACTS) + [("unlike", 3, 4), ("same", 4, 4)]
        broken = [("shape", 4, WITH_F)] + list(WATCHED_FACTS)
        for row in (("call", 0, 1, ()), ("method", 0, 1, "q", ())):
            self.breaks(facts, row, *broken)
            self.breaks([("kind", 0, "none"), ("same", 0, 0)], row, ("kind", 0, "none"))
            # The registers stay, also that of the function and the object.
            self.breaks([("is", 1, ("fun", "f"))][:row[0] == "call"] + [("is", 2, YES), ("kind", 5, "obj")], row)
        self.stops([("slot", "a", "q", num(1)), ("is", 1, ("name", "a"))], ("method", 0, 1, "q", ()))

    def test_jump_test_and_show(self):
        facts = [("kind", 0, "bit"), ("same", 0, 1), ("unlike", 2, 3), ("shape", 2, WITH_F)] + list(WATCHED_FACTS)
        for row in (("jump", 4), ("test", 0, 4), ("show", 2), ("show", 0)):
            self.breaks(facts, row)

    def test_facts_listed_twice(self):
        fact, kept = ("kind", 0, "num"), ("kind", 1, "num")
        self.breaks([fact, kept, fact, kept, fact], ("const", 0, NONE), fact, fact, fact)
        self.breaks([("same", 0, 1), fact, ("same", 1, 0)], ("const", 0, NONE), ("same", 0, 1), fact, ("same", 1, 0))

    def test_what_is_handed_in_stays(self):
        facts = [("kind", 0, "num"), ("shape", 1, WITH_F)]
        for row, _ in WRITING:
            can_finish(GROUND, facts, row)
            broken_by(GROUND, facts, row).append(None)
        self.assertEqual(facts, [("kind", 0, "num"), ("shape", 1, WITH_F)])


def drawn_scene(drawn, facts, row):
    """A scene in which facts hold, with more that is drawn, often so that a row is finished; or None."""
    more = [drawn_fact(drawn, 4, ("a", "b")) for _ in range(drawn.randint(0, 3))]
    at = {"get": 2, "method": 2, "new": 2, "set": 1, "drop": 1}.get(row[0])
    if at is not None:
        more.append(drawn.choice((("kind", row[at], "obj"), ("is", row[at], ("name", drawn.choice("ab"))),
                                  ("shape", row[at], (drawn.choice((None, "a", "b")), ("f", "g"))),
                                  ("same", row[at], drawn.randrange(4)))))
    elif row[0] == "prim":
        more += [("kind", place, drawn.choice(("num", "num", "col"))) for place in row[3]]
    elif row[0] in ("call", "test"):
        more.append(("kind", row[2 if row[0] == "call" else 1], "fun" if row[0] == "call" else "bit"))
    drawn.shuffle(more)
    facts = list(facts)
    for fact in [("same", 3, 3)] + more:
        if not contradictory(facts + [fact]):
            facts.append(fact)
    objects, told, names, places = scene_of(facts)
    # What nobody tells may be anything.
    for number, (parent, pairs) in enumerate(objects):
        pairs = tuple((f, drawn.choice(VALUES + (("fun", "f"),)) if value[0] == "err" else value) for f, value in pairs)
        objects[number] = (parent, pairs)
    return (objects, told, names, places)


class DrawnRows(BreakTest):
    """Drawn rows are carried out in drawn scenes."""

    def test_what_breaks_is_told(self):
        drawn = random.Random(21)
        seen = {"finished": 0, "broken": 0, "told": 0}
        for _ in range(1500):
            facts = [drawn_fact(drawn, 4, ("a", "b")) for _ in range(drawn.randint(1, 4))]
            if contradictory(facts):
                continue
            row = drawn_row(drawn)
            told = broken_by(GROUND, facts, row)
            broken = {}
            for _ in range(25):
                scene = drawn_scene(drawn, facts, row)
                if not fits(scene, facts):
                    continue
                after = carried_out(drawn, GROUND, row, scene)
                if after is not None:
                    self.assertTrue(can_finish(GROUND, facts, row), (facts, row, scene))
                    broken.update({fact: True for fact in facts if not holds(after, fact)})
                    seen["finished"] += 1
            self.assertTrue(all(fact in told for fact in broken), (facts, row, broken, told))
            seen["broken"] += len(broken)
            seen["told"] += len(set(told))
        # Most of what is told has been seen.
        self.assertGreater(seen["finished"], 3000)
        self.assertGreater(seen["broken"], 150)
        self.assertGreater(seen["broken"], 0.7 * seen["told"])


if __name__ == "__main__":
    unittest.main()
