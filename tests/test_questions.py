"""Questions, their answers, what is settled and what is impossible (S8.3, S8.4); shapeguess/questions.py."""

import unittest

from pieces import S0, S1, S2, Piece, branch_of, val
from samples import NONE, STRANGE, YES, num
from shapeguess.errors import BadPaper
from shapeguess.questions import answers, settled_at, stands
from shapeguess.quick import Version
from shapeguess.shapes import Shapes
from shapeguess.walks import verdict

# Register 3 is a temporary. Fields f and h and the method m, the globals g and k occur in plain rows.
PIECE = Piece("fun main(a, b, c) {a.f = b; $g = c; drop a.h; show a.m($k); return add(a, b);} fun z(x) {return #num:1;}")
KINDS = ["none", "bit", "err", "fun", "obj", "num", "col"]
G = ("global", "g")
OF_F = ("field", 0, "f")


def made(facts=(), names=("n", "o"), watched=(), rows=()):
    """A version that goes back at once, so that each branch that is not impossible is alike."""
    return PIECE.version(list(rows) + [("stop", PIECE.end(0, 0))], facts, names, watched)


def variant(name, *args):
    return ("variant", name, args)


class Asking(unittest.TestCase):
    version = made()

    def ask(self, question, *members, version=None):
        version = version or self.version
        branch = branch_of(*members)
        told = stands(PIECE.program, version, 0, branch, question)
        self.assertIn(told, (True, False))
        self.assertEqual(stands(PIECE.program, version, 0, tuple(branch), question), told)
        if told:
            self.assertIsInstance(answers(PIECE.program, version, 0, branch, question), list)
        else:
            with self.assertRaises(BadPaper):
                answers(PIECE.program, version, 0, branch, question)
        return told

    def stands(self, question, *members, version=None):
        self.assertTrue(self.ask(question, *members, version=version), question)

    def falls(self, question, *members, version=None):
        self.assertFalse(self.ask(question, *members, version=version), question)

    def answers(self, question, *members, version=None):
        return answers(PIECE.program, version or self.version, 0, branch_of(*members), question)


class Kinds(Asking):
    def test_start_terms(self):
        for q in (0, 1, 2):
            self.stands(("kind", ("start", q)))
            self.assertEqual(self.answers(("kind", ("start", q))), KINDS)
        # No places: a temporary, further quick registers, and those that do not exist.
        for q in (3, 4, 99, -1, True, None, "0", 10 ** 40):
            self.falls(("kind", ("start", q)))

    def test_start_terms_of_a_point_with_other_places(self):
        points = [(0, (), ((0, ("reg", 5)), (1, val(YES)), (2, ("reg", 1))))]
        version = Version("main", [], [], 9, [("point", 0), ("stop", (0, (("main", 0, PIECE.places(0, r0=("reg", 5),
                          r1=val(YES), r2=("reg", 1))),)))], points)
        self.assertEqual([q for q in range(9) if self.ask(("kind", ("start", q)), version=version)], [1, 5])

    def test_globals(self):
        for name in ("g", "k"):
            self.stands(("kind", ("global", name)))
            self.assertEqual(self.answers(("kind", ("global", name))), KINDS + ["unset"])
        self.falls(("kind", ("global", "f")))
        self.falls(("kind", ("global", "w")))
        for row in (("put", "w", 0), ("global", 5, "w", PIECE.end(0, 0))):
            self.stands(("kind", ("global", "w")), version=made(rows=[row]))
        self.stands(("kind", ("global", "w")), version=made(watched=[("global", "w", NONE)]))
        self.falls(("kind", ("global", "w")), version=made(watched=[("slot", "n", "w", NONE)]))

    def test_fields(self):
        question = ("kind", OF_F)
        self.falls(question)
        self.falls(question, ("shape", 0), "other")
        self.falls(question, ("shape", 0), "other", ("has", 0, "f"), "no")
        self.falls(question, ("shape", 0), "other", ("has", 0, "h"), "yes")
        self.stands(question, ("shape", 0), "other", ("has", 0, "f"), "yes")
        self.assertEqual(self.answers(question, ("shape", 0), "other", ("has", 0, "f"), "yes"), KINDS)
        version = made([("shape", 0, (None, ("f",))), ("shape", 1, (None, ("h",)))])
        self.stands(question, ("shape", 0), (None, ("f",)), version=version)
        self.falls(question, ("shape", 0), (None, ("h",)), version=version)
        self.falls(question, ("shape", 1), (None, ("f",)), version=version)
        # What facts tell of the object counts as answered.
        self.stands(question, version=made(watched=[("slot", "n", "f", YES)]))
        self.falls(question, version=made(watched=[("slot", "o", "f", YES)]))
        self.stands(question, version=made(watched=[("holds", "n", (None, ("h", "f")))]))
        self.falls(question, version=made(watched=[("holds", "n", (None, ("h",)))]))
        self.stands(question, version=made([("is", 0, ("name", "n")), ("shape", 0, ("o", ("f",)))]))
        self.falls(question, version=made([("is", 0, ("name", "o")), ("shape", 0, (None, ("f",)))]))
        self.stands(("kind", ("field", 2, "f")), ("which", S0), "further", version=made([("shape", 0, (None, ("f",)))]))
        self.falls(("kind", ("field", 2, "f")), version=made([("shape", 0, (None, ("f",)))]))

    def test_other_terms(self):
        for term in (val(NONE), val(YES), ("known", 0), variant("negnum", S0)):
            self.falls(("kind", term), ("kind", S0), "num")


class BitsAndWhich(Asking):
    def test_by_the_kind(self):
        for kind in KINDS:
            for term in (S0, G, OF_F):
                members = [("shape", 0), "other", ("has", 0, "f"), "yes"]
                self.falls(("bit", term), *members)
                self.falls(("which", term), *members)
                members += [("kind", term), kind]
                self.assertEqual(self.ask(("bit", term), *members), kind == "bit")
                self.assertEqual(self.ask(("which", term), *members), kind not in ("none", "bit"))
        self.falls(("which", G), ("kind", G), "unset")
        self.falls(("bit", G), ("kind", G), "unset")

    def test_by_kinds_that_facts_tell(self):
        for fact in (("kind", 0, "obj"), ("shape", 0, (None, ())), ("is", 0, ("name", "n")), ("is", 0, num(3)),
                     ("is", 0, ("err", "e"))):
            self.stands(("which", S0), version=made([fact]))
            self.falls(("bit", S0), version=made([fact]))
        for fact in (("kind", 0, "bit"), ("is", 0, YES)):
            self.stands(("bit", S0), version=made([fact]))
            self.falls(("which", S0), version=made([fact]))
        for fact in (("is", 0, NONE), ("kind", 0, "none"), ("same", 0, 1), ("unlike", 0, 1)):
            self.falls(("which", S0), version=made([fact]))
        self.stands(("which", G), version=made(watched=[("global", "g", ("fun", "z"))]))
        self.stands(("bit", G), version=made(watched=[("global", "g", YES)]))
        self.stands(("which", OF_F), version=made(watched=[("slot", "n", "f", ("name", "o"))]))

    def test_same_terms(self):
        version = made([("same", 0, 1), ("same", 2, 1)])
        self.stands(("bit", S2), ("kind", S0), "bit", version=version)
        self.stands(("bit", S0), ("kind", S1), "bit", version=version)
        self.stands(("which", S0), version=made([("same", 0, 1), ("kind", 1, "err")]))

    def test_terms_that_may_not_be_asked_for(self):
        for term in (val(YES), val(num(1)), ("known", 0)):
            self.falls(("bit", term))
            self.falls(("which", term))

    def test_answers(self):
        self.assertEqual(self.answers(("bit", S0), ("kind", S0), "bit"), ["yes", "no"])
        # The known objects are those of the names, the known values of num: 1.
        self.assertEqual(self.answers(("which", S0), ("kind", S0), "obj"), [0, 1, "further"])
        self.assertEqual(self.answers(("which", S0), ("kind", S0), "num"), [0, "further"])
        self.assertEqual(self.answers(("which", S0), ("kind", S0), "col"), ["further"])
        self.assertEqual(self.answers(("which", S0), ("kind", S0), "err"), list(range(8)) + ["further"])
        self.assertEqual(self.answers(("which", S0), ("kind", S0), "fun"), [0, 1, "further"])
        version = made(names=(), rows=[("const", 5, num(7))])
        self.assertEqual(self.answers(("which", S0), ("kind", S0), "obj", version=version), ["further"])
        self.assertEqual(self.answers(("which", S0), ("kind", S0), "num", version=version), [0, 1, "further"])

    def test_further_makes_one_more_known(self):
        members = [("kind", S0), "obj", ("kind", S1), "obj", ("kind", S2), "num", ("kind", G), "col"]
        more = members + [("which", S0), "further"]
        self.assertEqual(self.answers(("which", S1), *more), [0, 1, 2, "further"])
        self.assertEqual(self.answers(("which", S2), *more), [0, "further"])
        more += [("which", S2), "further", ("which", S1), "further"]
        self.assertEqual(self.answers(("which", S1), *more), [0, 1, 2, 3, "further"])
        self.assertEqual(self.answers(("which", S2), *more), [0, 1, "further"])
        self.assertEqual(self.answers(("which", G), *more), ["further"])
        more = members + [("which", S0), 1]
        self.assertEqual(self.answers(("which", S1), *more), [0, 1, "further"])

    def test_variant_terms(self):
        term = variant("addnum", S0, S1)
        self.falls(("which", term))
        self.falls(("which", term), ("kind", S0), "num")
        self.falls(("which", term), ("kind", S0), "num", ("kind", S1), "col")
        numbers = [("kind", S0), "num", ("kind", S1), "num"]
        self.stands(("which", term), *numbers)
        self.falls(("bit", term), *numbers)
        self.assertEqual(self.answers(("which", term), *numbers), [0, "further"])
        self.stands(("bit", variant("lessnum", S0, S1)), *numbers)
        self.falls(("which", variant("lessnum", S0, S1)), *numbers)
        self.stands(("which", variant("paint", S0, S1)), ("kind", S0), "num", ("kind", S1), "col")
        self.falls(("which", variant("paint", S1, S0)), ("kind", S0), "num", ("kind", S1), "col")
        self.stands(("which", variant("negnum", variant("addnum", S1, val(num(1))))), *numbers)
        self.falls(("which", variant("negnum", variant("lessnum", S1, S0))), *numbers)
        self.falls(("which", variant("addnum", S1, val(num(2)))), *numbers)
        self.falls(("which", variant("addnum", S1, ("known", 0))), *numbers)
        self.falls(("which", variant("addnum", S1, val(YES))), *numbers)
        for bent in (("variant", "addnum", [S0, S1]), variant("addnum", S0), variant("addnum", S0, S1, S1),
                     variant("negnum", S0, S0), variant("add", S0, S1), variant("w", S0, S1), variant(None, S0, S1),
                     variant("addnum", S0, list(S1)), variant("addnum", S0, ("start", True)), variant("addnum", S0, 1),
                     variant("addnum", S1, ("start", True)), variant("addnum", ("start", True), S1),
                     ("variant", "addnum"), term + ((),), variant("addnum", S0, val(("tok", "num", True))),
                     variant("addnum", val(num(1)), val(("tok", "num", True)))):
            self.falls(("which", bent), *numbers)

    def test_variant_terms_nested_deep(self):
        line, tree = S0, S0
        for _ in range(50):
            line = variant("negnum", line)
            tree = variant("addnum", tree, tree)
        for term in (line, tree):
            self.stands(("which", term), ("kind", S0), "num")
            self.falls(("which", term))
        # Deep down, too, each argument counts.
        for last, fine in ((S1, True), (S2, False), (val(num(2)), False), (val(None), False), (val([]), False),
                           ([], False)):
            term = variant("addnum", S0, last)
            for _ in range(20):
                term = variant("addnum", S0, term)
            self.assertEqual(self.ask(("which", term), ("kind", S0), "num", ("kind", S1), "num", ("kind", S2), "col"),
                             fine)


class AboutObjects(Asking):
    def test_shape(self):
        for o in (0, 1):
            self.stands(("shape", o))
        for o in (2, -1, True, False, None, "0", "n", 10 ** 40, (0,), [0]):
            self.falls(("shape", o))
        self.stands(("shape", 2), ("kind", S0), "obj", ("which", S0), "further")
        self.assertEqual(self.answers(("shape", 0)), ["other"])
        version = made([("shape", 0, ("n", ("f", "g"))), ("shape", 1, (None, ()))],
                       rows=[("set", 0, "g", 1, PIECE.end(0, 0))])
        told = [("n", ("f", "g")), (None, ()), ("n", ("f",)), "other"]
        self.assertEqual(self.answers(("shape", 1), version=version), told)

    def test_has(self):
        for field in ("f", "h", "m"):
            self.falls(("has", 0, field))
            self.stands(("has", 0, field), ("shape", 0), "other")
            self.falls(("has", 1, field), ("shape", 0), "other")
            self.assertEqual(self.answers(("has", 0, field), ("shape", 0), "other"), ["yes", "no"])
        # g is a global alone, and a primitive and a variant are no fields.
        for field in ("g", "w", "add", "addnum", "", None, 0, ("f",), ["f"]):
            self.falls(("has", 0, field), ("shape", 0), "other")
        version = made([("shape", 0, (None, ("f",)))])
        self.falls(("has", 0, "f"), ("shape", 0), (None, ("f",)), version=version)

    def test_fields_of_a_version(self):
        end = PIECE.end(0, 0)
        for more in (
            {"rows": [("get", 5, 0, "w", end)]}, {"rows": [("set", 0, "w", 1, end)]}, {"rows": [("drop", 0, "w", end)]},
            {"rows": [("load", 5, 0, (None, ("w",)), "w")]}, {"rows": [("store", 0, (None, ("w",)), "w", 0)]},
            {"rows": [("grow", 0, (None, ()), "w", 0)]}, {"rows": [("check", ("shape", 0, (None, ("w",))), end)]},
            {"facts": [("shape", 0, (None, ("w",)))]}, {"watched": [("holds", "o", (None, ("w",)))]},
            {"watched": [("slot", "o", "w", YES)]},
        ):
            self.stands(("has", 0, "w"), ("shape", 0), "other", version=made(**more))
        for more in ({"rows": [("put", "w", 0)]}, {"watched": [("global", "w", YES)]}, {"names": ("n", "w")}):
            self.falls(("has", 0, "w"), ("shape", 0), "other", version=made(**more))

    def test_methods_of_a_version(self):
        piece = Piece("fun main(a) {let b = a.m(); return b;}")
        version = piece.version([("method", 1, 0, "m", (), piece.end(0, 0), 1)], names=["n"], points=[(1, ())])
        branch = branch_of(("shape", 0), "other")
        self.assertTrue(stands(piece.program, version, 0, branch, ("has", 0, "m")))
        self.assertFalse(stands(piece.program, version, 0, branch, ("has", 0, "f")))

    def test_parent(self):
        self.falls(("parent", 0))
        self.stands(("parent", 0), ("shape", 0), "other")
        self.falls(("parent", 1), ("shape", 0), "other")
        self.assertEqual(self.answers(("parent", 0), ("shape", 0), "other"), ["none", 0, 1, "further"])
        more = [("shape", 0), "other", ("parent", 0), "further"]
        self.assertEqual(self.answers(("parent", 0), *more), ["none", 0, 1, 2, "further"])
        self.stands(("shape", 2), *more)
        version = made([("shape", 0, (None, ("f",)))])
        self.falls(("parent", 0), ("shape", 0), (None, ("f",)), version=version)

    def test_asked_again(self):
        members = [("shape", 0), "other", ("has", 0, "f"), "yes", ("parent", 0), "none", ("kind", S0), "bit",
                   ("bit", S0), "no"]
        for question in members[::2]:
            self.stands(question, *members)
        self.stands(("kind", G), version=made(watched=[("global", "g", YES)]))


class NoQuestions(Asking):
    def test_strange_things(self):
        for value in STRANGE + (Shapes(), made(), PIECE.program):
            self.falls(value)
            self.falls(("kind", value))
            self.falls(("which", value))
            self.falls(("bit", value), ("kind", S0), "bit")
            self.falls(("shape", value))

    def test_bent_questions(self):
        members = [("shape", 0), "other", ("has", 0, "f"), "yes", ("kind", S0), "bit", ("kind", S1), "num",
                   ("kind", OF_F), "err"]
        for question in (("kind", S0), ("kind", OF_F), ("kind", G), ("bit", S0), ("which", S1), ("which", OF_F),
                         ("shape", 0), ("has", 0, "f"), ("parent", 0)):
            self.stands(question, *members)
            self.falls(list(question), *members)
            self.falls(question[:-1], *members)
            self.falls(question + (0,), *members)
            self.falls(("kinds",) + question[1:], *members)
            self.falls((None,) + question[1:], *members)
            self.falls((["kind"],) + question[1:], *members)
            self.falls((question,), *members)
        for term in (list(S0), ("start",), S0 + (0,), ("start", "0"), ("start", [0]), ("begin", 0), ("global",),
                     ["global", "g"],
                     ("global", 0), ("global", None), G + ("g",), ("field", 0), ("field", 0, "f", "f"),
                     ("field", True, "f"),
                     ("field", False, "f"), ("field", "n", "f"), ("field", 0, 0), ("field", 0, ["f"]),
                     ("field", 2, "f"),
                     ("known", 0), ("fresh", 0), ("class", 0), ((), 0)):
            self.falls(("kind", term), *members)
        self.falls(("has", False, "f"), *members)
        self.falls(("parent", False), *members)
        self.falls(("has", "f", 0), *members)

    def test_nothing_stands_where_it_is_impossible(self):
        version = made([("kind", 0, "num"), ("kind", 0, "obj")])
        for question in (("kind", S0), ("kind", S1), ("which", S0), ("shape", 0), ("kind", G)):
            self.falls(question, version=version)
            self.falls(question, ("kind", S0), "num", ("kind", S0), "obj")


class Settled(unittest.TestCase):
    def at(self, term, *members, **more):
        version = made(**more)
        return settled_at(PIECE.program, version, 0, branch_of(*members), term)

    def test_values_and_known_objects(self):
        self.assertEqual(self.at(val(NONE)), val(NONE))
        self.assertEqual(self.at(val(YES)), val(YES))
        self.assertEqual(self.at(("known", 1)), ("known", 1))
        self.assertEqual(self.at(val(num(1))), ("mark", "num", 0))
        self.assertEqual(self.at(val(num(1)), rows=[("const", 5, num(0))]), ("mark", "num", 1))
        self.assertEqual(self.at(val(("err", "bit"))), ("mark", "err", 0))
        self.assertEqual(self.at(val(("fun", "z"))), ("mark", "fun", 1))

    def test_terms_that_are_not_settled(self):
        for term in (S0, G, OF_F):
            self.assertIsNone(self.at(term))
        for kind in KINDS[1:]:
            self.assertIsNone(self.at(S0, ("kind", S0), kind))
        self.assertIsNone(self.at(G, ("kind", G), "unset"))
        self.assertIsNone(self.at(S0, ("kind", S1), "none"))
        self.assertIsNone(self.at(variant("negnum", S0), ("kind", S0), "num"))
        # A variant of a settled term is no settled term.
        self.assertIsNone(self.at(variant("negnum", val(num(1)))))

    def test_by_answers(self):
        self.assertEqual(self.at(S0, ("kind", S0), "none"), val(NONE))
        self.assertEqual(self.at(G, ("kind", G), "none"), val(NONE))
        self.assertEqual(self.at(S0, ("kind", S0), "bit", ("bit", S0), "no"), val(("bit", "no")))
        self.assertEqual(self.at(S0, ("kind", S0), "obj", ("which", S0), 1), ("known", 1))
        self.assertEqual(self.at(S0, ("kind", S0), "obj", ("which", S0), "further"), ("known", 2))
        self.assertEqual(self.at(S0, ("kind", S0), "num", ("which", S0), 0), ("mark", "num", 0))
        self.assertEqual(self.at(S0, ("kind", S0), "num", ("which", S0), "further"), ("mark", "num", 1))
        self.assertEqual(self.at(G, ("kind", G), "err", ("which", G), 3), ("mark", "err", 3))
        self.assertEqual(self.at(G, ("kind", G), "fun", ("which", G), "further"), ("mark", "fun", 2))

    def test_by_facts(self):
        for mark, meaning in ((NONE, val(NONE)), (YES, val(YES)), (num(3), ("mark", "num", 1)),
                              (("name", "o"), ("known", 1)),
                              (("err", "bit"), ("mark", "err", 0)), (("fun", "z"), ("mark", "fun", 1))):
            self.assertEqual(self.at(S0, facts=[("is", 0, mark)]), meaning)
            self.assertEqual(self.at(G, watched=[("global", "g", mark)]), meaning)
            self.assertEqual(self.at(OF_F, watched=[("slot", "n", "f", mark)]), meaning)
            self.assertIsNone(self.at(S1, facts=[("is", 0, mark), ("unlike", 0, 1)]))
            self.assertEqual(self.at(S1, facts=[("is", 0, mark), ("same", 0, 1)]), meaning)
        self.assertEqual(self.at(S0, facts=[("kind", 0, "none")]), val(NONE))
        for fact in (("kind", 0, "obj"), ("kind", 0, "bit"), ("shape", 0, (None, ()))):
            self.assertIsNone(self.at(S0, facts=[fact]))

    def test_same_terms(self):
        facts = [("same", 1, 2), ("same", 2, 0)]
        self.assertEqual(self.at(S1, ("kind", S0), "bit", ("bit", S2), "yes", facts=facts), val(YES))
        for facts, settled in (([("same", 0, 1)], [True, True, False]), ([("same", 2, 0)], [True, False, True]),
                               ([("same", 1, 2)], [True, False, False]),
                               ([("same", 2, 2)], [True, False, False])):
            told = [self.at(term, ("kind", S0), "none", facts=facts) is not None for term in (S0, S1, S2)]
            self.assertEqual(told, settled)

    def test_variant_terms_that_count_as_one(self):
        numbers = [("kind", S0), "num", ("kind", S1), "num"]
        one, other = variant("negnum", S0), variant("negnum", S1)
        answered = numbers + [("which", one), "further"]
        self.assertEqual(self.at(one, *answered), ("mark", "num", 1))
        self.assertIsNone(self.at(other, *answered))
        self.assertIsNone(self.at(variant("addnum", S0, S0), *answered))
        # They count as one when their arguments are settled and equal, in whichever order it is asked.
        equal = [("which", S0), 0, ("which", S1), 0]
        self.assertEqual(self.at(other, *answered, *equal), ("mark", "num", 1))
        self.assertEqual(self.at(other, *numbers, *equal, ("which", one), "further"), ("mark", "num", 1))
        self.assertIsNone(self.at(other, *answered, ("which", S0), 0, ("which", S1), "further"))
        self.assertEqual(self.at(other, *numbers, ("which", one), 0, facts=[("same", 0, 1)]), ("mark", "num", 0))
        self.assertEqual(self.at(variant("negnum", val(num(1))), *answered, ("which", S0), 0), ("mark", "num", 1))
        # The order of the arguments counts, and so does the variant.
        answered = numbers + [("which", variant("addnum", S0, S1)), 0]
        self.assertIsNone(self.at(variant("addnum", S1, S0), *answered))
        self.assertEqual(self.at(variant("addnum", S1, S0), *answered, *equal), ("mark", "num", 0))
        self.assertIsNone(self.at(variant("lessnum", S0, S1), *answered))

    def test_variant_terms_within_one_another(self):
        numbers = [("kind", S0), "num", ("kind", S1), "num", ("kind", S2), "num"]
        inner, other = variant("negnum", S0), variant("negnum", S1)
        outer = variant("addnum", inner, S2)
        answered = numbers + [("which", outer), "further"]
        same = [("which", S0), "further", ("which", S1), 2]
        # The inner ones count as one without being settled.
        self.assertEqual(self.at(variant("addnum", other, S2), *answered, *same), ("mark", "num", 1))
        self.assertIsNone(self.at(variant("addnum", other, S2), *answered))
        # The inner one is settled and equal to another term, which takes its place.
        found = answered + [("which", inner), "further", ("which", S1), 2]
        self.assertEqual(self.at(variant("addnum", S1, S2), *found), ("mark", "num", 1))
        # What is settled late settles an inner one, and so an outer one.
        late = numbers + [("which", variant("negnum", inner)), "further", ("which", other), 0, ("which", S0), 0,
                          ("which", S1), 0]
        self.assertEqual(self.at(inner, *late), ("mark", "num", 0))
        self.assertEqual(self.at(variant("negnum", val(num(1))), *late), ("mark", "num", 0))


class Impossible(unittest.TestCase):
    def check(self, expected, members, version=None):
        version = version or made()
        branch = branch_of(*members)
        self.assertEqual(verdict(PIECE.program, version, 0, branch), "impossible" if expected else "alike", members)
        self.assertEqual(stands(PIECE.program, version, 0, branch, ("shape", 0)), not expected)

    def bad(self, *members, **more):
        self.check(True, members, made(**more) if more else None)

    def fine(self, *members, **more):
        self.check(False, members, made(**more) if more else None)

    def test_two_kinds(self):
        self.fine()
        self.fine(("kind", S0), "num", ("kind", S0), "num")
        self.bad(("kind", S0), "num", ("kind", S0), "obj")
        self.bad(("kind", G), "unset", ("kind", G), "none")
        self.fine(("kind", G), "unset", ("kind", ("global", "k")), "none")
        self.fine(("kind", S0), "num", ("kind", S1), "obj")
        self.bad(("kind", S0), "num", ("kind", S1), "obj", facts=[("same", 0, 1)])
        self.bad(facts=[("kind", 0, "num"), ("kind", 0, "col")])
        self.fine(facts=[("kind", 0, "num"), ("kind", 1, "col")])
        self.bad(("kind", S0), "num", facts=[("shape", 0, (None, ()))])
        self.fine(("kind", S0), "obj", facts=[("shape", 0, (None, ()))])
        for mark, kind in ((NONE, "none"), (YES, "bit"), (num(1), "num"), (("name", "n"), "obj"),
                           (("err", "e"), "err")):
            for told in KINDS:
                self.check(told != kind, [("kind", S0), told], made([("is", 0, mark)]))
                self.check(told != kind, [("kind", G), told], made(watched=[("global", "g", mark)]))
                self.check(told != kind, [("kind", OF_F), told], made(watched=[("slot", "n", "f", mark)]))
        self.bad(("kind", G), "unset", watched=[("global", "g", NONE)])

    def test_settled_in_two_ways(self):
        numbers = [("kind", S0), "num"]
        self.fine(*numbers, ("which", S0), 0, ("which", S0), 0)
        self.bad(*numbers, ("which", S0), 0, ("which", S0), "further")
        self.bad(*numbers, ("which", S0), "further", ("which", S0), 0)
        self.fine(*numbers, ("which", S0), "further", ("which", S0), 1)
        self.bad(*numbers, ("which", S0), "further", ("which", S0), "further")
        self.bad(("kind", S0), "bit", ("bit", S0), "yes", ("bit", S0), "no")
        self.fine(("kind", S0), "bit", ("bit", S0), "yes", ("bit", S0), "yes")
        self.bad(("bit", S0), "no", facts=[("is", 0, YES)])
        self.fine(("bit", S0), "yes", facts=[("is", 0, YES)])
        self.bad(facts=[("is", 0, num(1)), ("is", 0, num(2))])
        self.fine(facts=[("is", 0, num(1)), ("is", 1, num(2))])
        self.bad(facts=[("is", 0, num(1)), ("is", 1, num(2)), ("same", 1, 0)])
        self.bad(facts=[("is", 0, ("name", "n")), ("is", 0, ("name", "o"))])
        self.bad(watched=[("global", "g", YES), ("global", "g", ("bit", "no"))])
        self.bad(watched=[("slot", "n", "f", num(1)), ("slot", "n", "f", num(2))])
        self.fine(watched=[("slot", "n", "f", num(1)), ("slot", "n", "h", num(2)), ("slot", "o", "f", num(2))])
        self.bad(("which", G), 1, watched=[("global", "g", ("fun", "main"))])
        self.fine(("which", G), 0, watched=[("global", "g", ("fun", "main"))])

    def test_settled_in_two_ways_through_variant_terms(self):
        numbers = [("kind", S0), "num", ("kind", S1), "num"]
        one, other = variant("negnum", S0), variant("negnum", S1)
        answered = numbers + [("which", one), 0, ("which", other), "further"]
        self.fine(*answered)
        self.bad(*answered, facts=[("same", 0, 1)])
        self.bad(*answered, ("which", S0), 0, ("which", S1), 0)
        self.fine(*answered, ("which", S0), 0, ("which", S1), 1)
        self.bad(*numbers, ("which", one), 0, ("which", one), "further")
        deep, deeper = variant("negnum", one), variant("negnum", other)
        answered = numbers + [("which", deep), 0, ("which", deeper), "further"]
        self.fine(*answered)
        self.bad(*answered, ("which", one), 0, ("which", other), 0)
        self.bad(*answered, ("which", S0), 0, ("which", S1), 0)
        self.fine(*answered, ("which", S0), 0, ("which", S1), 1)
        bits = [("bit", variant("lessnum", S0, S1)), "yes", ("bit", variant("lessnum", S1, S0)), "no"]
        self.fine(*numbers, *bits)
        self.bad(*numbers, *bits, ("which", S0), 0, ("which", S1), 0)

    def test_two_shapes(self):
        facts = [("shape", 0, (None, ("f",))), ("shape", 1, ("o", ("f",)))]
        for one in ((None, ("f",)), ("o", ("f",)), "other"):
            for other in ((None, ("f",)), ("o", ("f",)), "other"):
                self.check(one != other, [("shape", 0), one, ("shape", 0), other], made(facts))
                self.check(False, [("shape", 0), (None, ("f",)), ("shape", 1), "other"], made(facts))
            self.check(one != (None, ("f",)), [("shape", 0), one],
                       made(facts, watched=[("holds", "n", (None, ("f",)))]))
            self.check(one != (None, ("f",)), [("shape", 0), one, ("which", S0), 0], made(facts))
            self.check(one != (None, ("f",)), [("which", S0), 0, ("shape", 0), one], made(facts))
        self.bad(watched=[("holds", "n", (None, ())), ("holds", "n", (None, ("f",)))])
        self.bad(("which", S0), 0, ("which", S1), 0, facts=facts)
        self.fine(("which", S0), 0, ("which", S1), 1, facts=[facts[0], ("shape", 1, ("n", ("f",)))])
        self.fine(("which", S0), "further", ("which", S1), "further", facts=facts)

    def test_two_parents(self):
        other = [("shape", 0), "other", ("shape", 1), "other"]
        self.fine(*other, ("parent", 0), "none", ("parent", 0), "none", ("parent", 1), 0)
        self.bad(*other, ("parent", 0), "none", ("parent", 0), 1)
        self.bad(*other, ("parent", 0), 1, ("parent", 0), "further")
        self.fine(*other, ("parent", 0), "further", ("parent", 0), 2)
        self.bad(*other, ("parent", 0), "further", ("parent", 0), "further")
        self.bad(*other, ("parent", 0), "further", ("parent", 0), "none")

    def test_two_answers_for_a_field(self):
        other = [("shape", 0), "other"]
        self.fine(*other, ("has", 0, "f"), "yes", ("has", 0, "h"), "no", ("has", 0, "f"), "yes")
        self.bad(*other, ("has", 0, "f"), "yes", ("has", 0, "f"), "no")
        slot = [("slot", "n", "f", YES)]
        self.bad(*other, ("has", 0, "f"), "no", watched=slot)
        self.fine(*other, ("has", 0, "f"), "yes", ("has", 0, "h"), "no", watched=slot)
        facts = [("shape", 0, (None, ("f", "h"))), ("shape", 1, (None, ("h",)))]
        self.fine(("shape", 0), (None, ("f", "h")), facts=facts, watched=slot)
        self.bad(("shape", 0), (None, ("h",)), facts=facts, watched=slot)
        self.bad(watched=slot + [("holds", "n", (None, ("h",)))])
        self.fine(watched=slot + [("holds", "n", (None, ("h", "f")))])
        self.bad(("which", S1), 0, facts=facts, watched=slot)
        self.fine(("which", S1), 1, facts=facts, watched=slot)

    def test_unlike(self):
        self.bad(facts=[("unlike", 0, 0)])
        self.bad(facts=[("unlike", 0, 1), ("same", 1, 0)])
        self.bad(facts=[("unlike", 0, 2), ("same", 0, 1), ("same", 1, 2)])
        unlike = [("unlike", 0, 1)]
        self.fine(facts=unlike)
        for kind in ("bit", "err", "obj", "num"):
            self.fine(("kind", S0), kind, ("kind", S1), kind, facts=unlike)
        self.bad(("kind", S0), "none", ("kind", S1), "none", facts=unlike)
        bits = [("kind", S0), "bit", ("kind", S1), "bit", ("bit", S0), "yes"]
        self.fine(*bits, facts=unlike)
        self.bad(*bits, ("bit", S1), "yes", facts=unlike)
        self.fine(*bits, ("bit", S1), "no", facts=unlike)
        for kind in ("obj", "num"):
            members = [("kind", S0), kind, ("kind", S1), kind, ("which", S0), 0]
            self.bad(*members, ("which", S1), 0, facts=unlike)
            self.fine(*members, ("which", S1), "further", facts=unlike)
        self.bad(facts=unlike + [("is", 0, num(3)), ("is", 1, num(3))])
        self.fine(facts=unlike + [("is", 0, num(3)), ("is", 1, num(4))])
        # Numbers of values of two kinds do not make them equal.
        self.fine(("kind", S0), "num", ("which", S0), 0, ("kind", S1), "obj", ("which", S1), 0, facts=unlike)

    def test_objects_above(self):
        other = [("shape", 0), "other", ("shape", 1), "other"]
        self.bad(*other, ("parent", 0), 0)
        self.bad(*other, ("parent", 0), 1, ("parent", 1), 0)
        self.fine(*other, ("parent", 0), 1, ("parent", 1), "further")
        line = other + [("parent", 0), 1, ("parent", 1), "further", ("shape", 2), "other"]
        self.fine(*line, ("parent", 2), "none")
        self.bad(*line, ("parent", 2), "further")
        self.bad(*line, ("parent", 2), 1)
        self.bad(watched=[("holds", "n", ("n", ()))])
        self.bad(watched=[("holds", "n", ("o", ())), ("holds", "o", ("n", ()))])
        self.fine(watched=[("holds", "n", ("o", ())), ("holds", "o", (None, ()))])
        holds = [("holds", "n", ("o", ())), ("holds", "o", ("p", ()))]
        self.fine(names=("n", "o", "p"), watched=holds)
        self.bad(names=("n", "o", "p"), watched=holds + [("holds", "p", ("n", ()))])
        self.fine(names=("n", "o", "p"), watched=holds + [("holds", "p", (None, ()))])
        self.bad(names=("n", "o", "p", "q"), watched=holds + [("holds", "p", ("q", ()))])
        # A shape and an answered parent together.
        more = {"facts": [("shape", 0, ("o", ()))], "watched": [("holds", "n", ("o", ()))]}
        self.bad(("shape", 1), "other", ("parent", 1), 0, **more)
        self.fine(("shape", 1), "other", ("parent", 1), "further", **more)
        self.bad(("which", S0), 1, **more)
        self.bad(("which", S0), 1, facts=[("shape", 0, ("o", ()))])


class Branches(unittest.TestCase):
    def test_what_is_no_branch(self):
        version = made()
        fine = [(("kind", S0), "num")]
        self.assertEqual(verdict(PIECE.program, version, 0, fine), "alike")
        self.assertEqual(verdict(PIECE.program, version, 0, tuple(fine)), "alike")
        wrong = [
            None, 0, "", "kind", {}, {"a": 1}, Shapes(), version, [None], [()], [("kind", S0)], [["kind", "num"]],
            [[("kind", S0), "num"]], [(("kind", S0),)], [(("kind", S0), "num", "num")], [(["kind", S0], "num")],
            [(("kind", S0), "number")], [(("kind", S0), None)], [(("kind", S0), 0)], [(("kind", S0), ["num"])],
            [(("kind", S0), "unset")], [(("which", S0), 0)], [(("kind", S0), "num"), (("which", S0), True)],
            [(("kind", S0), "num"), (("which", S0), False)], [(("kind", S0), "num"), (("which", S0), 1)],
            [(("kind", S0), "num"), (("which", S0), -1)], [(("kind", S0), "num"), (("which", S0), "0")],
            [(("shape", 0), (None, ()))], [(("shape", 0), "others")], [(("shape", 0), "other"), (("parent", 0), True)],
            [(("shape", 0), "other"), (("has", 0, "f"), True)], [(("shape", 0), "other"), (("parent", 0), None)],
            # Nothing stands behind what is impossible.
            [(("kind", S0), "num"), (("kind", S0), "obj"), (("kind", S1), "obj")],
        ]
        for branch in wrong:
            with self.assertRaises(BadPaper):
                verdict(PIECE.program, version, 0, branch)
        shaped = made([("shape", 0, ("n", ("f",)))])
        for shape in (("n", ["f"]), ["n", ("f",)], ("n",), ("o", ("f",)), ("n", ("h",)), (0, ("f",))):
            with self.assertRaises(BadPaper):
                verdict(PIECE.program, shaped, 0, [(("shape", 0), shape)])

    def test_nothing_is_changed_and_lists_are_new(self):
        version = made([("shape", 0, ("n", ("f",)))])
        branch = branch_of(("kind", S0), "obj", ("which", S0), "further")
        kept = list(branch)
        for question in (("kind", S0), ("which", S0), ("shape", 0)):
            first = answers(PIECE.program, version, 0, branch, question)
            second = answers(PIECE.program, version, 0, branch, question)
            self.assertEqual(first, second)
            self.assertIsNot(first, second)
            first.clear()
            self.assertEqual(answers(PIECE.program, version, 0, branch, question), second)
        verdict(PIECE.program, version, 0, branch)
        self.assertEqual(branch, kept)


if __name__ == "__main__":
    unittest.main()
