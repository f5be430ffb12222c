"""Programs as trees: forms, paths, names, locals, equality (S1.1 to S1.3); shapeguess/trees.py."""

import unittest

from samples import LOCALS, NONE, NO, STRANGE, WORD_OF_12, WORD_OF_13, YES, Maker, ground, name, num, value
from shapeguess.errors import BadTree, NoFunction, TwiceTold, UnknownName
from shapeguess.signatures import Signature
from shapeguess.trees import Program, locals_of

A = ("name", "a")
V = ("value", NONE)

# A right expression and statement of each form; all names exist where a is a parameter.
EXPRESSIONS = {
    "name": ("name", "a"),
    "global": ("global", "g"),
    "value": ("value", YES),
    "get": ("get", A, "f"),
    "new": ("new", V),
    "prim": ("prim", "add", (A, V)),
    "same": ("same", A, V),
    "call": ("call", A, (V, A)),
    "method": ("method", A, "m", (V, A)),
}
STATEMENTS = {
    "let": ("let", "b", A),
    "put": ("put", "g", A),
    "set": ("set", A, "f", V),
    "drop": ("drop", A, "f"),
    "if": ("if", A, (("show", A),), (("do", A),)),
    "while": ("while", A, (("show", A),)),
    "return": ("return", A),
    "throw": ("throw", A),
    "show": ("show", A),
    "do": ("do", A),
    "try": ("try", (("do", A),), "e", (("throw", A),)),
}
# What each member behind the first word of a form is.
ROLES = {
    "name": "w", "global": "w", "value": "v", "get": "ew", "new": "e", "prim": "wo", "same": "ee", "call": "ea",
    "method": "ewa", "let": "we", "put": "we", "set": "ewe", "drop": "ew", "if": "ess", "while": "es",
    "return": "e", "throw": "e", "show": "e", "do": "e", "try": "sws",
}
# What is wrong in the place of each role.
WRONG = {
    "w": ("", "A", WORD_OF_13, 0, None, True, ("a",), ["a"], "a b"),
    "v": (("obj", 0), None, "none", ["none"], ("bit", True), ("tok", "num", True), ("tok", "obj", 0), ("no",), ()),
    "e": (None, 0, "name", (), [], ["name", "a"], ("nothing", "a"), ("name",), ("name", "a", "b"), (("name",), "a"),
          (["name"], "a"), ("show", A), (0, "a"), ({}, "a"), ("let", "a", A), STATEMENTS["do"], (None,), ("get", A)),
    "o": (None, [], [A], (), (A, A, A), "a", 1, {}),
    "a": (None, [], [A], "a", 1, {}),
    "s": (None, [], [("do", A)], "a", 1, {}),
}


def function(*statements):
    return ("main", ("a",), statements)


def program(*statements):
    return Program(ground(), [function(*statements)])


def replaced(part, path, other):
    """The tuple part with another thing in the place at the path."""
    if not path:
        return other
    return part[:path[0]] + (replaced(part[path[0]], path[1:], other),) + part[path[0] + 1:]


class TreeTest(unittest.TestCase):
    def refused(self, error, argument, functions, signature=None):
        with self.assertRaises(error) as caught:
            Program(signature or ground(), functions)
        self.assertIs(type(caught.exception), error)
        told = caught.exception.path if error is BadTree else caught.exception.name
        self.assertEqual(told, argument)
        self.assertIs(type(told), type(argument))


class RightForms(TreeTest):
    def test_each_expression(self):
        for e in EXPRESSIONS.values():
            self.assertEqual(program(("do", e)).function("main"), function(("do", e)))

    def test_each_statement(self):
        for s in STATEMENTS.values():
            self.assertEqual(program(s).function("main"), function(s))

    def test_numbers_of_arguments(self):
        for args in ((), (A,), (A,) * 9):
            program(("do", ("call", A, args)), ("do", ("method", A, "m", args)))
        for args in ((A,), (A, A)):
            program(("do", ("prim", "add", args)))

    def test_empty_parts(self):
        Program(ground(), [])
        Program(ground(), ())
        Program(ground(), [("f", (), ())])
        program(("if", A, (), ()), ("while", A, ()), ("try", (), "e", ()))

    def test_any_words(self):
        for word in ("let", "none", "call", "obj", WORD_OF_12, "x9"):
            signature = Signature([], {word: []})
            body = (
                ("let", word, ("prim", word, (("name", word),))),
                ("put", word, ("get", ("global", word), word)),
                ("try", (("drop", ("method", ("name", word), word, ()), word),), word, ()),
                ("set", ("value", ("fun", word)), word, ("value", ("err", word))),
            )
            Program(signature, [(word, (word,), body)])

    def test_values(self):
        for v in (NONE, YES, NO, num(0), num(10 ** 40), ("err", "e"), ("fun", "main")):
            program(("do", ("value", v)))

    def test_nested_deep(self):
        e = A
        for _ in range(60):
            e = ("new", e)
        s = ("do", e)
        for _ in range(60):
            s = ("if", A, (s,), ())
        program(s)


class WrongForms(TreeTest):
    def test_functions(self):
        good = function()
        wrong = STRANGE[:-4] + (list(good), good[:2], good + (0,), "abc", ("f", ()), ["f", (), ()])
        for thing in wrong:
            self.refused(BadTree, (1,), [good, thing])

    def test_members_of_functions(self):
        for word in WRONG["w"]:
            self.refused(BadTree, (0, 0), [(word, (), ())])
            self.refused(BadTree, (0, 1, 1), [("f", ("a", word, "A"), ())])
        for thing in (None, [], ["a"], "a", 1, {}):
            self.refused(BadTree, (0, 1), [("f", thing, ())])
        for thing in WRONG["s"]:
            self.refused(BadTree, (0, 2), [("f", (), thing)])

    def test_statements_as_a_whole(self):
        wrong = STRANGE + ("do", ("do",), ("do", A, A), ["do", A], ("nothing", A), (("do",), A), (["do"], A), (0, A),
                           ("let", "b"), ("if", A, ()), ("try", (), "e"), ("while", A, (), ())) + tuple(
                               EXPRESSIONS.values())
        for thing in wrong:
            self.refused(BadTree, (0, 2, 1), [function(("do", A), thing)])

    def test_each_member_of_each_expression(self):
        for word, e in EXPRESSIONS.items():
            for at, role in enumerate(ROLES[word], start=1):
                for thing in WRONG[role]:
                    wrong = ("do", replaced(e, (at,), thing))
                    self.refused(BadTree, (0, 2, 0, 1, at), [function(wrong)])

    def test_each_member_of_each_statement(self):
        for word, s in STATEMENTS.items():
            for at, role in enumerate(ROLES[word], start=1):
                for thing in WRONG[role]:
                    self.refused(BadTree, (0, 2, 1, at), [function(("do", A), replaced(s, (at,), thing))])

    def test_number_of_members_of_each_form(self):
        for e in EXPRESSIONS.values():
            for wrong in (e[:-1], e + (A,), e + ((),), list(e)):
                self.refused(BadTree, (0, 2, 0, 1), [function(("do", wrong))])
        for s in STATEMENTS.values():
            for wrong in (s[:-1], s + (A,), s + ((),), list(s)):
                self.refused(BadTree, (0, 2, 0), [function(wrong)])

    def test_inside_tuples_of_parts(self):
        for thing in WRONG["e"]:
            self.refused(BadTree, (0, 2, 0, 1, 2, 1), [function(("do", ("prim", "add", (A, thing))))])
            self.refused(BadTree, (0, 2, 0, 1, 2, 1), [function(("do", ("call", A, (A, thing, A))))])
            self.refused(BadTree, (0, 2, 0, 1, 3, 0), [function(("do", ("method", A, "m", (thing, None))))])
        for thing in (None, ("do",), ["do", A], A):
            self.refused(BadTree, (0, 2, 0, 2, 1), [function(("if", A, (("do", A), thing), (thing,)))])
            self.refused(BadTree, (0, 2, 0, 3, 0), [function(("if", A, (("do", A),), (thing,)))])
            self.refused(BadTree, (0, 2, 0, 2, 0), [function(("while", A, (thing,)))])
            self.refused(BadTree, (0, 2, 0, 1, 0), [function(("try", (thing,), "A", (thing,)))])
            self.refused(BadTree, (0, 2, 0, 3, 0), [function(("try", (), "e", (thing,)))])

    def test_the_first_wrong_part_is_told(self):
        good = function(("do", A))
        self.refused(BadTree, (1, 0), [good, ("F", ["a"], None), None])
        self.refused(BadTree, (0, 1, 0), [("f", ("A", "B"), (None,)), None])
        self.refused(BadTree, (0, 2, 0), [function(("if", None), None)])
        self.refused(BadTree, (0, 2, 0, 1), [function(("set", None, "F", None))])
        self.refused(BadTree, (0, 2, 0, 2), [function(("set", A, "F", None))])
        self.refused(BadTree, (0, 2, 0, 3), [function(("set", A, "f", None))])
        self.refused(BadTree, (0, 2, 0, 1, 1), [function(("let", "b", A), None)[:2] + ((("do", ("name", 0)), None),)])
        self.refused(BadTree, (0, 2, 0, 1, 1), [function(("do", ("get", None, "F")))])

    def test_the_whole_comes_before_its_members(self):
        self.refused(BadTree, (0,), [(0, None)])
        self.refused(BadTree, (0, 2, 0), [function(("let", "B"))])
        self.refused(BadTree, (0, 2, 0, 1, 2), [function(("do", ("prim", "add", (None, None, None))))])

    def test_forms_come_before_names(self):
        self.refused(BadTree, (2,), [("f", ("a", "a"), ()), ("f", (), (("do", ("name", "x")),)), None])

    def test_deep_wrong_part(self):
        e = None
        for _ in range(60):
            e = ("new", e)
        self.refused(BadTree, (0, 2, 0) + (1,) * 61, [function(("do", e))])

    def test_example_of_paths(self):
        # (0, 2, 1, 0) is the first word of the second statement of the first function.
        functions = [function(("do", A), ("show", A))]
        self.assertEqual(functions[0][2][1][0], "show")


class Names(TreeTest):
    def test_function_told_twice(self):
        self.refused(TwiceTold, "f", [("f", (), ()), ("g", (), ()), ("f", (), ())])

    def test_parameter_told_twice(self):
        self.refused(TwiceTold, "b", [("f", ("a", "b", "b", "a"), ())])

    def test_function_before_parameter(self):
        self.refused(TwiceTold, "f", [("f", (), ()), ("f", ("a", "a"), ())])
        self.refused(TwiceTold, "a", [("f", ("a", "a"), ()), ("f", (), ())])

    def test_parameter_before_body(self):
        self.refused(TwiceTold, "a", [("f", ("a", "a"), (("do", name("x")),))])

    def test_function_by_function(self):
        self.refused(UnknownName, "x", [("f", (), (("do", name("x")),)), ("f", (), ())])

    def test_unknown_local(self):
        for e in (name("x"), ("get", name("x"), "f"), ("new", name("x")), ("prim", "add", (A, name("x"))),
                  ("same", A, name("x")), ("call", A, (A, name("x"))), ("method", name("x"), "m", (name("y"),))):
            self.refused(UnknownName, "x", [function(("do", e))])

    def test_names_of_other_kinds_are_no_locals(self):
        for word in ("main", "add", "num", "g", "f"):
            body = (("put", "g", A), ("set", A, "f", ("global", "g")), ("do", name(word)))
            self.refused(UnknownName, word, [function(*body)])

    def test_let_introduces_behind_its_expression(self):
        self.refused(UnknownName, "x", [function(("let", "x", name("x")))])
        program(("let", "x", A), ("let", "x", name("x")))

    def test_try_introduces_behind_its_body(self):
        self.refused(UnknownName, "e", [function(("try", (("show", name("e")),), "e", ()))])
        program(("try", (), "e", (("show", name("e")),)), ("show", name("e")))

    def test_introduced_in_one_branch_alone(self):
        let = ("let", "x", A)
        use = ("show", name("x"))
        program(("if", A, (let,), (use,)), use)
        program(("if", A, (), (let,)), use)
        program(("while", A, (let,)), use)
        program(("try", (let,), "e", (use,)), use)
        program(("try", (), "e", (let,)), use)
        program(("return", A), let, use)
        self.refused(UnknownName, "x", [function(("if", A, (use,), (let,)))])
        self.refused(UnknownName, "x", [function(("while", name("x"), (let,)))])
        self.refused(UnknownName, "x", [function(("try", (use,), "e", (let,)))])
        self.refused(UnknownName, "x", [function(("if", name("x"), (let,), ()))])

    def test_even_where_never_executed(self):
        self.refused(UnknownName, "x", [function(("return", A), ("show", name("x")))])
        self.refused(UnknownName, "x", [function(("if", ("value", NO), (("show", name("x")),), ()))])

    def test_locals_of_other_functions(self):
        self.refused(UnknownName, "a", [function(), ("f", (), (("do", A),))])
        self.refused(UnknownName, "b", [function(("let", "b", A)), ("f", ("a",), (("do", name("b")),))])

    def test_unknown_primitive(self):
        self.refused(UnknownName, "sub", [function(("do", ("prim", "sub", (A,))))])
        self.refused(UnknownName, "addnum", [function(("do", ("prim", "addnum", (A, A))))])
        program(("do", ("prim", "idle", (A,))))

    def test_unknown_kind(self):
        self.refused(UnknownName, "dog", [function(("do", ("value", ("tok", "dog", 0))))])
        program(("do", ("value", num(99))))

    def test_a_part_is_checked_before_its_members(self):
        self.refused(UnknownName, "sub", [function(("do", ("prim", "sub", (name("x"),))))])
        self.refused(UnknownName, "x", [function(("do", ("prim", "add", (name("x"), ("prim", "sub", (A,))))))])

    def test_parts_in_order(self):
        dog = ("value", ("tok", "dog", 0))
        self.refused(UnknownName, "dog", [function(("set", dog, "f", name("x")))])
        self.refused(UnknownName, "x", [function(("set", name("x"), "f", dog))])
        self.refused(UnknownName, "x", [function(("do", ("method", A, "m", (name("x"), dog))))])
        self.refused(UnknownName, "x", [function(("if", A, (("do", name("x")),), (("do", dog),)))])
        self.refused(UnknownName, "dog", [function(("if", dog, (("do", name("x")),), ()))])
        self.refused(UnknownName, "dog", [function(("while", dog, (("do", name("x")),)))])

    def test_unknown_functions_come_last(self):
        missing = ("do", ("value", ("fun", "gone")))
        self.refused(NoFunction, "gone", [function(missing)])
        self.refused(UnknownName, "x", [function(missing), ("f", (), (("do", name("x")),))])
        self.refused(TwiceTold, "main", [function(missing), function()])
        farther = ("g", (), (("do", value(("fun", "far"))),))
        self.refused(NoFunction, "gone", [function(), ("f", (), (missing,)), farther])
        self.refused(NoFunction, "far", [function(("show", value(("fun", "far"))), missing)])
        self.refused(NoFunction, "far", [function(("do", ("call", value(("fun", "far")), (value(("fun", "gone")),))))])

    def test_later_functions_may_be_named(self):
        Program(ground(), [function(("do", value(("fun", "f"))), ("do", value(("fun", "main")))), ("f", (), ())])

    def test_errors_may_have_any_word(self):
        program(("throw", value(("err", "nothing"))))


class Parts(TreeTest):
    def test_parts(self):
        functions = [function(("do", A)), ("f", (), ())]
        made = Program(ground(), functions)
        self.assertEqual(made.signature(), ground())
        self.assertEqual(made.functions(), functions)
        self.assertIsInstance(made.functions(), list)
        self.assertEqual(made.names(), ["main", "f"])
        self.assertEqual(made.function("f"), ("f", (), ()))

    def test_unknown_function(self):
        made = program()
        for thing in STRANGE + ("f", "a", ("main",), made):
            for asked in (made.function, lambda word: locals_of(made, word)):
                with self.assertRaises(NoFunction) as caught:
                    asked(thing)
                self.assertIs(caught.exception.name, thing)

    def test_nothing_is_kept_and_what_is_told_is_new(self):
        functions = [function()]
        made = Program(ground(), functions)
        functions.append(("f", (), ()))
        made.functions().append(("f", (), ()))
        made.names().clear()
        locals_of(made, "main").clear()
        self.assertEqual(made.functions(), [function()])
        self.assertEqual(made.names(), ["main"])
        self.assertEqual(locals_of(made, "main"), ["a"])
        self.assertEqual(functions, [function(), ("f", (), ())])

    def test_tuple_of_functions(self):
        self.assertEqual(Program(ground(), (function(),)), Program(ground(), [function()]))


class Locals(TreeTest):
    def test_parameters_then_others(self):
        body = (
            ("let", "d", A),
            ("if", A, (("let", "c", A), ("let", "a", A)), (("let", "b", A), ("let", "d", A))),
            ("while", A, (("let", "i", A),)),
            ("try", (("let", "z", A), ("try", (), "y", (("let", "x", A),))), "w", (("let", "v", A), ("let", "z", A))),
            ("let", "u", A),
        )
        made = Program(ground(), [("main", ("p", "a"), body)])
        told = ["p", "a", "d", "c", "b", "i", "z", "y", "x", "w", "v", "u"]
        self.assertEqual(locals_of(made, "main"), told)

    def test_none(self):
        self.assertEqual(locals_of(Program(ground(), [("f", (), ())]), "f"), [])

    def test_random_programs(self):
        for seed in range(20):
            functions = Maker(seed).functions()
            made = Program(ground(), functions)
            for told in functions:
                self.assertEqual(sorted(locals_of(made, told[0])), sorted(LOCALS))
                self.assertEqual(locals_of(made, told[0])[:len(told[1])], list(told[1]))


class Equality(TreeTest):
    def test_equal(self):
        for seed in range(5):
            one = Program(ground(), Maker(seed).functions())
            other = Program(ground(), Maker(seed).functions())
            self.assertTrue(one == other)
            self.assertFalse(one != other)

    def test_unequal_parts(self):
        base = Program(ground(), [function(("do", A)), ("f", (), ())])
        others = (
            Program(ground(), [function(("do", A))]),
            Program(ground(), [("f", (), ()), function(("do", A))]),
            Program(ground(), [function(("show", A)), ("f", (), ())]),
            Program(ground(), [("main", ("a", "b"), (("do", A),)), ("f", (), ())]),
            Program(ground(), [("maine", ("a",), (("do", A),)), ("f", (), ())]),
            Program(Signature([], {}), [function(("do", A)), ("f", (), ())]),
        )
        for other in others:
            self.assertTrue(base != other)
            self.assertFalse(base == other)

    def test_unequal_to_everything_else(self):
        made = program()
        for thing in STRANGE + (made.functions(), ground()):
            self.assertIs(made == thing, False)
            self.assertIs(thing == made, False)


if __name__ == "__main__":
    unittest.main()
