"""Contradictory lists of facts, and what follows from a list (S6.3, S6.4); shapeguess/following.py."""

import random
import unittest

import factsearch
from factmodel import NAMES, VALUES, drawn_fact, holds
from samples import NONE, NO, YES, num
from shapeguess.facts import fact_holds, fits
from shapeguess.following import contradictory, counter_scene, follows, scene_of
from shapeguess.values import is_value, is_word


def names_of(facts):
    """The names of objects in facts."""
    found = set()
    for fact in facts:
        shape = fact[2] if fact[0] in ("shape", "holds") else (None, ())
        marks = fact[3:] if fact[0] == "slot" else fact[2:] if fact[0] in ("is", "global") else ()
        found |= {mark[1] for mark in marks if mark[0] == "name"} | {shape[0]} - {None}
        found |= {fact[1]} if fact[0] in ("holds", "slot") else set()
    return found


def count_of(facts):
    return max([1 + q for fact in facts for q in factsearch.registers_of(fact)], default=0)


class FactTest(unittest.TestCase):
    def right_scene(self, scene, facts):
        """The form of a scene, with just the registers and names of facts."""
        objects, told, names, places = scene
        self.assertEqual([type(part) for part in scene], [list, dict, dict, list])
        self.assertIsInstance(scene, tuple)
        self.assertEqual((set(names), len(places)), (names_of(facts), count_of(facts)))
        self.assertEqual(len(set(names.values())), len(names))
        for number, plain in enumerate(objects):
            self.assertIsInstance(plain, tuple)
            self.assertTrue(all(is_word(f) for f, _ in plain[1]))
            self.assertEqual(len(plain[1]), len(dict(plain[1])))
            above = []
            while number is not None:
                self.assertIn(number, range(len(objects)))
                above.append(number)
                self.assertLessEqual(len(above), 3)
                number = objects[number][0]
        values = list(places) + list(told.values()) + [value for _, pairs in objects for _, value in pairs]
        self.assertTrue(all(is_value(value) and (value[0] != "obj" or value[1] < len(objects)) for value in values))
        self.assertTrue(all(number in range(len(objects)) for number in names.values()))
        self.assertTrue(all(is_word(g) for g in told))

    def possible(self, *facts):
        facts = list(facts)
        for order in (facts, facts[::-1]):
            self.assertIs(contradictory(order), False, order)
            scene = scene_of(order)
            self.right_scene(scene, order)
            self.assertTrue(fits(scene, order), (order, scene))

    def against(self, *facts):
        """The list is contradictory, also with more facts, and all follows from it."""
        facts = list(facts)
        for order in (facts, facts[::-1], tuple(facts), facts + [("kind", 7, "num"), ("global", "z", NONE)]):
            self.assertIs(contradictory(order), True, order)
            self.assertIsNone(scene_of(order))
            for fact in (("kind", 0, "num"), ("unlike", 5, 5), ("holds", "z", (None, ())), ("global", "z", NONE)):
                self.assertIs(follows(order, fact), True)
                self.assertIsNone(counter_scene(order, fact))

    def leads(self, facts, *more):
        """These facts follow from a list."""
        self.assertFalse(contradictory(facts))
        for fact in more:
            self.assertIs(follows(facts, fact), True, (facts, fact))
            self.assertIsNone(counter_scene(facts, fact))

    def leads_not(self, facts, *more):
        for fact in more:
            self.assertIs(follows(facts, fact), False, (facts, fact))
            scene = counter_scene(facts, fact)
            self.right_scene(scene, list(facts) + [fact])
            self.assertTrue(fits(scene, facts), (facts, fact, scene))
            self.assertFalse(fact_holds(scene, fact), (facts, fact, scene))


class Contradictions(FactTest):
    def test_no_facts(self):
        self.possible()
        self.assertEqual(scene_of([])[2:], ({}, []))

    def test_two_kinds(self):
        kinds = ("none", "bit", "err", "fun", "obj", "num", "col")
        for one in kinds:
            for other in kinds:
                told = (self.possible if one == other else self.against)
                told(("kind", 0, one), ("kind", 0, other))
                told(("kind", 0, one), ("same", 0, 1), ("kind", 1, other))
        for mark in VALUES + (("name", "a"),):
            kind = "obj" if mark[0] == "name" else mark[1] if mark[0] == "tok" else mark[0]
            for other in kinds:
                (self.possible if other == kind else self.against)(("is", 0, mark), ("kind", 0, other))
        self.against(("shape", 0, (None, ())), ("kind", 0, "num"))
        self.against(("shape", 0, (None, ())), ("same", 0, 1), ("is", 1, NONE))
        self.possible(("shape", 0, (None, ())), ("kind", 0, "obj"))

    def test_two_marks(self):
        marks = VALUES + (("name", "a"), ("name", "b"), num(2), ("err", "f"), ("fun", "e"))
        for one in marks:
            for other in marks:
                told = (self.possible if one == other else self.against)
                told(("is", 0, one), ("is", 0, other))
                told(("is", 0, one), ("same", 0, 1), ("same", 2, 1), ("is", 2, other))
                # Registers of one mark are one class.
                told(("is", 0, one), ("is", 1, one), ("same", 1, 2), ("is", 2, other))

    def test_unlike_in_one_class(self):
        self.against(("unlike", 0, 0))
        self.against(("same", 0, 1), ("unlike", 0, 1))
        self.against(("same", 0, 1), ("same", 1, 2), ("same", 3, 2), ("unlike", 3, 0))
        self.possible(("same", 0, 1), ("same", 3, 2), ("unlike", 3, 0))
        for mark in VALUES + (("name", "a"),):
            self.against(("is", 0, mark), ("is", 1, mark), ("unlike", 0, 1))
        self.possible(("is", 0, num(0)), ("is", 1, num(1)), ("unlike", 0, 1))
        # More than one class is joined by marks, and more than two registers.
        pairs = [("is", q, num(q // 2)) for q in range(6)]
        for q in (0, 2, 4):
            self.against(*pairs, ("unlike", q, q + 1))
            self.possible(*pairs, ("unlike", q, 5 - q if q != 2 else 4))
        many = [("is", q, ("name", "a")) for q in range(4)]
        for one, other in ((0, 3), (1, 2), (1, 3), (3, 2), (0, 1)):
            self.against(*many, ("unlike", one, other))
        self.against(("kind", 0, "none"), ("kind", 1, "none"), ("unlike", 1, 0))
        self.against(("kind", 0, "none"), ("is", 1, NONE), ("unlike", 1, 0))
        self.possible(("kind", 0, "none"), ("unlike", 1, 0))
        for kind in ("bit", "err", "fun", "obj", "num"):
            self.possible(("kind", 0, kind), ("kind", 1, kind), ("unlike", 1, 0))

    def test_rings_of_bits(self):
        for many in range(2, 9):
            ring = [("kind", q, "bit") for q in range(many)]
            ring += [("unlike", q, (q + 1) % many) for q in range(many)]
            (self.possible if many % 2 == 0 else self.against)(*ring)
            # Without the kinds, without one of them, and with one step less there is no such ring.
            self.possible(*ring[many:])
            self.possible(*ring[1:])
            self.possible(*ring[:-1])
            # A mark tells the kind as well.
            (self.possible if many % 2 == 0 else self.against)(("is", 0, YES), *ring[1:])

    def test_marks_along_bits(self):
        bits = [("kind", q, "bit") for q in range(5)]
        way = [("unlike", q, q + 1) for q in range(4)]
        for last in range(5):
            fits_with = (YES, NO)[last % 2]
            self.possible(*bits, *way, ("is", 0, YES), ("is", last, fits_with))
            self.against(*bits, *way, ("is", 0, YES), ("is", last, NO if fits_with == YES else YES))
        # An even number of steps: one class.
        self.against(*bits, *way, ("unlike", 4, 0))
        self.possible(*bits, *way, ("same", 4, 0))
        self.possible(*bits, *way, ("unlike", 3, 0))
        self.against(*bits, *way, ("same", 3, 0))
        # Marks that are found along the steps join classes, too.
        self.against(("is", 0, YES), ("kind", 1, "bit"), ("unlike", 0, 1), ("is", 2, YES), ("kind", 3, "bit"),
                     ("unlike", 2, 3), ("unlike", 1, 3))
        # A register that is no bit does not count as a step.
        self.possible(("is", 0, YES), ("is", 1, NO), ("unlike", 0, 2), ("unlike", 1, 2))
        self.against(("is", 0, YES), ("is", 1, NO), ("unlike", 0, 2), ("unlike", 1, 2), ("kind", 2, "bit"))
        self.possible(("is", 0, YES), ("is", 1, NO), ("unlike", 0, 2), ("unlike", 1, 2), ("kind", 2, "num"))

    def test_two_shapes(self):
        shapes = ((None, ()), (None, ("f",)), (None, ("f", "g")), (None, ("g", "f")), ("b", ()), ("c", ("f",)))
        for one in shapes:
            for other in shapes:
                told = (self.possible if one == other else self.against)
                told(("shape", 0, one), ("shape", 0, other))
                told(("shape", 0, one), ("same", 0, 1), ("shape", 1, other))
                told(("holds", "a", one), ("holds", "a", other))
                told(("holds", "a", one), ("is", 0, ("name", "a")), ("shape", 0, other))
                told(("is", 1, ("name", "a")), ("shape", 1, one), ("is", 0, ("name", "a")), ("shape", 0, other))
                self.possible(("shape", 0, one), ("shape", 1, other))
                self.possible(("shape", 0, one), ("shape", 1, other), ("unlike", 0, 1))
        self.possible(("holds", "a", shapes[0]), ("is", 0, ("name", "b")), ("shape", 0, shapes[1]))

    def test_globals_and_slots(self):
        marks = VALUES + (("name", "a"), ("name", "b"))
        for one in marks:
            for other in marks:
                told = (self.possible if one == other else self.against)
                told(("global", "g", one), ("global", "g", other))
                told(("slot", "a", "f", one), ("slot", "a", "f", other))
                self.possible(("global", "g", one), ("global", "h", other))
                self.possible(("slot", "a", "f", one), ("slot", "a", "g", other), ("slot", "b", "f", other))

    def test_slots_and_shapes(self):
        slot = ("slot", "a", "f", NONE)
        self.possible(slot, ("holds", "a", (None, ("g", "f"))))
        self.against(slot, ("holds", "a", (None, ("g",))))
        self.against(slot, ("is", 0, ("name", "a")), ("same", 0, 1), ("shape", 1, (None, ())))
        self.possible(slot, ("is", 0, ("name", "a")), ("same", 0, 1), ("shape", 1, (None, ("f",))))
        self.possible(slot, ("is", 0, ("name", "b")), ("shape", 0, (None, ())))
        self.against(slot, ("slot", "a", "g", YES), ("holds", "a", (None, ("f",))))

    def test_ways_that_meet_a_name_twice(self):
        self.against(("holds", "a", ("a", ())))
        self.against(("holds", "a", ("b", ())), ("holds", "b", ("a", ())))
        self.against(("holds", "a", ("b", ())), ("holds", "b", ("c", ())), ("holds", "c", ("a", ())))
        self.against(("holds", "a", ("b", ())), ("holds", "b", ("b", ())))
        self.against(("is", 0, ("name", "a")), ("shape", 0, ("a", ())))
        self.against(("is", 0, ("name", "a")), ("shape", 0, ("b", ())), ("holds", "b", ("a", ())))
        self.against(("is", 0, ("name", "a")), ("shape", 0, ("b", ())), ("is", 1, ("name", "b")), ("shape", 1, ("a", ())))
        self.against(("shape", 0, ("a", ())), ("holds", "a", ("b", ())), ("holds", "b", ("a", ())))
        self.possible(("shape", 0, ("a", ())), ("shape", 1, ("b", ())))

    def test_ways_of_roots(self):
        holds_none, holds_b, holds_c = ("holds", "a", (None, ())), ("holds", "a", ("b", ())), ("holds", "b", ("c", ()))
        self.possible(holds_b, holds_c)
        self.possible(holds_b, holds_c, ("holds", "c", (None, ("f",))))
        self.against(holds_b, holds_c, ("holds", "c", ("d", ())))
        self.possible(("shape", 0, ("a", ())), holds_b)
        self.possible(("shape", 0, ("a", ())), holds_b, ("holds", "b", (None, ())))
        self.against(("shape", 0, ("a", ())), holds_b, holds_c)
        self.possible(("shape", 0, ("a", ())), holds_none, holds_c)
        # By the shape of a class whose mark is the name.
        way = [("is", 1, ("name", "a")), ("shape", 1, ("b", ())), holds_c]
        self.possible(*way)
        self.possible(*way, ("shape", 2, ("b", ())))
        self.against(*way, ("shape", 2, ("a", ())))
        self.against(("shape", 0, ("a", ())), ("is", 1, ("name", "a")), ("same", 1, 2), ("shape", 2, ("b", ())),
                     ("holds", "b", ("c", ())))
        self.possible(("is", 0, ("name", "a")), ("shape", 0, ("b", ())), ("holds", "b", ("c", ())))

    def test_many_facts_together(self):
        self.possible(("kind", 0, "num"), ("kind", 1, "num"), ("unlike", 0, 1), ("is", 2, num(0)), ("unlike", 0, 2),
                      ("unlike", 1, 2), ("kind", 3, "err"), ("kind", 4, "fun"), ("is", 5, ("err", "z1")), ("unlike", 3, 5))
        self.possible(("kind", 0, "obj"), ("kind", 1, "obj"), ("unlike", 0, 1), ("is", 2, ("name", "a")), ("unlike", 2, 1),
                      ("shape", 1, ("a", ("f",))), ("holds", "a", (None, ("f", "g"))), ("slot", "a", "g", ("name", "a")))
        self.possible(("is", 7, ("err", "z1")), ("is", 5, ("fun", "z2")), ("kind", 0, "err"), ("unlike", 0, 7))


class Following(FactTest):
    def test_from_no_facts(self):
        self.leads([], ("same", 0, 0), ("same", 3, 3))
        self.leads_not([], ("kind", 0, "none"), ("kind", 2, "err"), ("kind", 0, "obj"), ("is", 0, NONE), ("is", 1, YES),
                       ("is", 0, ("name", "a")), ("shape", 0, (None, ())), ("same", 0, 1), ("unlike", 0, 1),
                       ("unlike", 0, 0), ("global", "g", NONE), ("holds", "a", (None, ())), ("slot", "a", "f", NONE),
                       ("shape", 0, ("a", ())), ("global", "g", ("name", "a")), ("slot", "a", "f", ("name", "b")))

    def test_what_is_told(self):
        drawn = random.Random(1)
        for _ in range(200):
            fact = drawn_fact(drawn)
            if not contradictory([fact]):
                self.leads([fact], fact)

    def test_kinds(self):
        for mark, kind in ((NONE, "none"), (YES, "bit"), (num(3), "num"), (("err", "e"), "err"), (("fun", "e"), "fun"),
                           (("name", "a"), "obj")):
            self.leads([("is", 1, mark)], ("kind", 1, kind))
            self.leads([("is", 1, mark), ("same", 1, 0)], ("kind", 0, kind), ("is", 0, mark))
            self.leads_not([("is", 1, mark)], ("kind", 1, "col"), ("kind", 0, kind), ("is", 0, mark))
        self.leads([("shape", 0, (None, ()))], ("kind", 0, "obj"))
        self.leads_not([("kind", 0, "num")], ("kind", 0, "col"), ("is", 0, num(0)), ("is", 0, num(1)), ("kind", 1, "num"))
        self.leads([("kind", 0, "none")], ("is", 0, NONE))
        self.leads_not([("kind", 0, "bit")], ("is", 0, YES), ("is", 0, NO))
        self.leads_not([("kind", 0, "err")], ("kind", 0, "fun"), ("is", 0, ("err", "e")), ("is", 0, ("err", "z1")))
        self.leads_not([("kind", 0, "fun")], ("is", 0, ("fun", "z1")))

    def test_tokens_of_any_number(self):
        for numbers in ((1, 2, 3), (2, 3, 4), (7, 8, 9), (10 ** 40, 10 ** 40 + 1, 10 ** 40 + 2)):
            facts = [("is", 5 + at, num(number)) for at, number in enumerate(numbers)]
            facts += [("kind", 0, "num"), ("kind", 1, "num"), ("unlike", 0, 1)]
            facts += [("unlike", q, 5 + at) for at in range(3) for q in (0, 1)]
            self.possible(*facts)
            self.leads_not(facts, *(("is", q, num(number)) for q in (0, 1) for number in range(12)))
            self.leads_not(facts, *(("is", q, num(numbers[-1] + more)) for q in (0, 1) for more in range(9)))

    def test_same_and_unlike(self):
        self.leads([("same", 0, 1), ("same", 1, 2)], ("same", 2, 0), ("same", 1, 0))
        self.leads_not([("same", 0, 1), ("same", 3, 2)], ("same", 2, 0), ("unlike", 2, 0))
        self.leads([("unlike", 0, 1), ("same", 1, 2)], ("unlike", 2, 0), ("unlike", 0, 2))
        self.leads([("is", 0, num(1)), ("is", 1, num(1))], ("same", 0, 1))
        self.leads([("is", 0, num(1)), ("is", 1, num(2))], ("unlike", 0, 1))
        self.leads([("is", 0, ("name", "a")), ("is", 1, ("name", "b"))], ("unlike", 0, 1))
        self.leads([("kind", 0, "num"), ("kind", 1, "col")], ("unlike", 0, 1))
        self.leads([("shape", 0, (None, ())), ("shape", 1, (None, ("f",)))], ("unlike", 1, 0))
        self.leads_not([("shape", 0, (None, ())), ("shape", 1, (None, ()))], ("unlike", 1, 0), ("same", 0, 1))
        self.leads([("kind", 0, "none"), ("kind", 1, "none")], ("same", 0, 1))
        # An object that is above another one is not this one.
        self.leads([("shape", 0, ("a", ())), ("is", 1, ("name", "a"))], ("unlike", 0, 1))

    def test_bits(self):
        bits = [("kind", q, "bit") for q in range(4)]
        way = [("unlike", q, q + 1) for q in range(3)]
        self.leads(bits + way, ("same", 0, 2), ("same", 1, 3), ("unlike", 0, 3))
        self.leads_not(bits + way, ("is", 0, YES), ("is", 0, NO), ("is", 3, YES))
        self.leads(bits + way + [("is", 0, YES)], ("is", 1, NO), ("is", 2, YES), ("is", 3, NO))
        self.leads_not(bits + way[:2], ("same", 0, 3), ("unlike", 0, 3))
        self.leads_not(way, ("same", 0, 2))
        self.leads([("is", 0, YES), ("kind", 1, "bit"), ("unlike", 1, 0)], ("is", 1, NO))
        self.leads_not([("is", 0, YES), ("unlike", 1, 0)], ("is", 1, NO), ("kind", 1, "bit"))

    def test_shapes(self):
        held = [("holds", "a", ("b", ("f",)))]
        self.leads(held + [("is", 0, ("name", "a"))], ("shape", 0, ("b", ("f",))))
        self.leads([("is", 0, ("name", "a")), ("shape", 0, ("b", ("f",)))], held[0])
        self.leads_not(held + [("is", 0, ("name", "a"))], ("shape", 0, (None, ("f",))), ("shape", 1, ("b", ("f",))))
        self.leads_not(held, ("holds", "a", ("b", ())), ("holds", "b", (None, ())), ("holds", "c", ("b", ("f",))))
        self.leads_not([("kind", 0, "obj")], ("shape", 0, (None, ())), ("shape", 0, ("a", ("f",))))
        self.leads_not([("slot", "a", "f", NONE)], ("holds", "a", (None, ("f",))), ("holds", "a", ("b", ("f",))))
        self.leads_not([("is", 0, ("name", "a")), ("slot", "a", "f", NONE)], ("shape", 0, (None, ("f",))))

    def test_globals_and_slots(self):
        told = [("global", "g", YES), ("slot", "a", "f", ("name", "b")), ("slot", "a", "g", ("err", "z1"))]
        self.leads(told, *told)
        self.leads_not(told, ("global", "g", NO), ("global", "h", YES), ("slot", "a", "f", ("name", "a")),
                       ("slot", "a", "h", NONE), ("slot", "b", "f", ("name", "b")), ("slot", "a", "f", NONE),
                       ("global", "g", ("name", "a")), ("slot", "c", "f", ("name", "b")))
        # A field without a slot has a content that nobody tells, whatever it is compared with.
        held = [("holds", "a", (None, ("f", "g")))]
        self.leads_not(held, *(("slot", "a", "f", mark) for mark in VALUES + (("err", "z1"), ("name", "a"))))

    def test_facts_of_tuples(self):
        facts = (("kind", 0, "none"),)
        self.assertTrue(follows(facts, ("is", 0, NONE)))
        self.assertFalse(contradictory(facts))
        self.assertIsNone(counter_scene(facts, ("is", 0, NONE)))
        self.assertIsNotNone(scene_of(facts))

    def test_what_is_handed_in_stays(self):
        facts = [("kind", 0, "bit"), ("unlike", 0, 1), ("kind", 1, "bit"), ("shape", 2, ("a", ("f",)))]
        for call in (contradictory, scene_of):
            call(facts)
        for fact in (("is", 0, YES), ("shape", 2, ("b", ()))):
            follows(facts, fact)
            counter_scene(facts, fact)
        self.assertEqual(facts, [("kind", 0, "bit"), ("unlike", 0, 1), ("kind", 1, "bit"), ("shape", 2, ("a", ("f",)))])
        one, other = scene_of(facts), scene_of(facts)
        for part in one:
            part.clear()
        self.assertTrue(fits(other, facts) and fits(scene_of(facts), facts))

    def test_registers_and_names_of_scenes(self):
        facts = [("kind", 6, "num"), ("global", "g", ("name", "c")), ("holds", "a", ("b", ())),
                 ("slot", "a", "f", ("name", "d"))][:3]
        self.possible(*facts)
        self.assertEqual(len(scene_of(facts)[3]), 7)
        for fact in (("same", 1, 9), ("unlike", 9, 1), ("is", 3, ("name", "e")), ("shape", 8, ("e", ())),
                     ("holds", "e", ("f", ())), ("slot", "e", "x", ("name", "f")), ("global", "h", ("name", "e"))):
            self.leads_not(facts, fact)


class AgainstSearch(FactTest):
    """Drawn lists: what S6.4 finds is what trying all values finds."""

    def test_drawn_lists(self):
        drawn = random.Random(7)
        counts = {True: 0, False: 0}
        for _ in range(700):
            names = ("a", "b", "c", "d")[:drawn.randint(1, 4)]
            facts = [drawn_fact(drawn, 3, names) for _ in range(drawn.randint(1, 7))]
            told = factsearch.is_contradictory(facts, 3, names)
            self.assertIs(contradictory(facts), told, facts)
            counts[told] += 1
            (self.against if told else self.possible)(*facts)
        self.assertGreater(min(counts.values()), 150)

    def test_drawn_facts(self):
        drawn = random.Random(8)
        counts = {True: 0, False: 0}
        for _ in range(2000):
            names = NAMES[:drawn.randint(1, 3)]
            facts = [drawn_fact(drawn, 3, names) for _ in range(drawn.randint(1, 5))]
            if not contradictory(facts):
                fact = drawn_fact(drawn, 3, names)
                told = factsearch.is_following(facts, fact, 3, names)
                (self.leads if told else self.leads_not)(facts, fact)
                counts[told] += 1
        self.assertGreater(min(counts.values()), 40)

    def test_scenes_by_the_model(self):
        drawn = random.Random(9)
        for _ in range(600):
            facts = [drawn_fact(drawn) for _ in range(drawn.randint(1, 10))]
            scene = scene_of(facts)
            if scene is not None:
                self.assertTrue(all(holds(scene, fact) for fact in facts), (facts, scene))


if __name__ == "__main__":
    unittest.main()
