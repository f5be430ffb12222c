"""Runs of trees (S3.6), also against the run by rows; shapeguess/treerun.py."""

import sys
import unittest

from samples import NONE, NO, YES, Maker, ground, ground_book, num, program_of
from shapeguess.books import Book
from shapeguess.errors import BadState, NoFunction
from shapeguess.states import start
from shapeguess.steps import run
from shapeguess.treerun import tree_run
from shapeguess.trees import Program
from treemodel import TreeRun

BOOK = ground_book()
OTHERS = " fun two(x, y) {return y;} fun one(x) {return x;} fun nought() {return yes;} fun still() {}"
FAR = 3000


def err(word):
    return ("err", word)


def fun(word):
    return ("fun", word)


def program_with(text):
    return program_of("fun main(a, b) {" + text + "}" + OTHERS)


def tree(text, a=NONE, b=NONE, limit=FAR):
    return tree_run(program_with(text), BOOK, "main", [a, b], limit)


class TreeTest(unittest.TestCase):
    def takes(self, turns, text, a=NONE, b=NONE):
        """The run takes this number of turns; returns what it shows and its end, which the run by rows has, too."""
        shown, end = tree(text, a, b, turns)
        self.assertIsNotNone(end, text)
        self.assertEqual(tree(text, a, b, FAR), (shown, end))
        for limit in range(turns):
            part, nothing = tree(text, a, b, limit)
            self.assertIsNone(nothing, (text, limit))
            self.assertEqual(part, shown[:len(part)])
        state, _ = run(start(program_with(text), BOOK, "main", [a, b]), FAR)
        self.assertEqual((state.shown(), state.end()), (shown, end), text)
        return shown, end

    def ends(self, turns, text, a, b, *shown):
        """The run takes this number of turns, shows these values and returns none."""
        self.assertEqual(self.takes(turns, text, a, b), (list(shown), ("returned", NONE)), text)

    def throws(self, word, text, a=NONE, b=NONE):
        """The run by trees and that by rows end with this error; it is handled if there is a try around it."""
        state, _ = run(start(program_with(text), BOOK, "main", [a, b]), FAR)
        for end in (tree(text, a, b)[1], state.end()):
            self.assertEqual(end, ("thrown", err(word)), text)
        self.assertEqual(tree("try {" + text + "} catch c {show c;}", a, b), ([err(word)], ("returned", NONE)), text)
        self.assertEqual(tree("try {try {" + text + "} catch c {throw c;} show a;} catch d {show d;}", a, b),
                         ([err(word)], ("returned", NONE)), text)
        # Around a call: the locals of the caller are there again.
        program = program_of("fun main(a, b) {try {call &inside(a, b);} catch c {show c; show b;}} fun inside(a, b) {"
                             + "let b = a;" + text.replace("b.", "a.") + "}" + OTHERS)
        if "b" not in text:
            self.assertEqual(tree_run(program, BOOK, "main", [a, b], FAR), ([err(word), b], ("returned", NONE)), text)


class Expressions(TreeTest):
    def test_turns_of_each_form(self):
        self.ends(2, "show a;", YES, NO, YES)
        self.ends(2, "show #num:2;", YES, NO, num(2))
        self.ends(2, "show &one;", YES, NO, fun("one"))
        # put, the name; show, the global.
        self.ends(4, "$g = a; show $g;", YES, NO, YES)
        # let, new, none; set, b, a; show, get, b.
        self.ends(9, "let b = new(none); b.f = a; show b.f;", YES, NO, YES)
        self.ends(3, "show neg(a);", num(1), NO, num(2))
        self.ends(4, "show add(a, b);", num(1), num(1), num(2))
        self.ends(4, "show a == b;", num(1), num(1), YES)
        self.ends(4, "show a == b;", num(1), num(2), NO)
        # show, call, &two, a, b; inside return, y.
        self.ends(7, "show call &two(a, b);", YES, NO, NO)
        self.ends(5, "show call &nought();", YES, NO, YES)
        self.ends(3, "show call &still();", YES, NO, NONE)
        # let, new, none; set, b, &two; show, method, b, a; inside return, y.
        self.ends(12, "let b = new(none); b.m = &two; show b.m(a);", YES, NO, YES)

    def test_brackets_take_no_turn(self):
        self.ends(2, "show ((a));", YES, NO, YES)
        self.ends(6, "show (a == b) == b;", YES, NO, YES)

    def test_operands_from_left_to_right(self):
        # Each call of say shows its argument.
        says = " fun say(x) {show x; return x;}"
        rows = (
            ("add(call &say(#num:0), call &say(#num:1));", [num(0), num(1)]),
            ("call &say(yes) == call &say(no);", [YES, NO]),
            ("call &two(call &say(yes), call &say(no));", [YES, NO]),
            ("let o = new(none); o.m = &two; o.n = o; (call &say(o)).m(call &say(no));", [("obj", 0), NO]),
            ("let o = new(none); (call &say(o)).f = call &say(yes);", [("obj", 0), YES]),
            ("call (call &say(&two))(call &say(yes), call &say(no));", [fun("two"), YES, NO]),
            ("less(call &say(#num:0), add(call &say(#num:1), call &say(#num:2)));", [num(0), num(1), num(2)]),
        )
        for text, shown in rows:
            program = program_of("fun main() {" + text + "}" + OTHERS + says)
            self.assertEqual(tree_run(program, BOOK, "main", [], FAR), (shown, ("returned", NONE)), text)

    def test_names_without_a_value_are_none(self):
        self.ends(4, "if b {let c = a;} show c;", YES, NO, NONE)
        self.assertEqual(self.takes(6, "if b {let c = a;} show c;", YES, YES)[0], [YES])
        # What a call has set is not there in the next one.
        program = program_of("fun main() {call &f(yes); call &f(no);} fun f(x) {if x {let y = x;} show y;}")
        self.assertEqual(tree_run(program, BOOK, "main", [], FAR)[0], [YES, NONE])

    def test_locals_of_a_function_are_its_own(self):
        program = program_of("fun main(a) {let b = no; show call &f(a); show a; show b;} "
                             "fun f(b) {let a = #num:1; let b = a; return b;}")
        self.assertEqual(tree_run(program, BOOK, "main", [YES], FAR)[0], [num(1), YES, NO])

    def test_objects_get_numbers_in_order(self):
        self.ends(9, "show new(none); show new(new(none)); show a;", YES, NO, ("obj", 0), ("obj", 2), YES)

    def test_fields(self):
        self.ends(26, "let o = new(none); o.f = a; let p = new(o); show p.f; p.f = b; show p.f; show o.f; drop p.f;"
                  " show p.f;", YES, NO, YES, NO, YES, YES)


class Statements(TreeTest):
    def test_turns_of_each_form(self):
        self.ends(0, "", YES, NO)
        self.ends(2, "let c = a;", YES, NO)
        self.ends(2, "$g = a;", YES, NO)
        self.ends(2, "a;", YES, NO)
        self.ends(8, "let o = new(none); o.f = a; drop o.f;", YES, NO)
        self.assertEqual(self.takes(2, "return a; show a;", YES, NO), ([], ("returned", YES)))
        self.assertEqual(self.takes(2, "throw a; show a;", YES, NO), ([], ("thrown", YES)))
        self.ends(4, "if a {show a;} else {show b; show b;}", YES, NO, YES)
        self.ends(6, "if a {show a;} else {show b; show b;}", NO, YES, YES, YES)
        self.ends(2, "if a {show a;}", NO, YES)
        self.ends(3, "try {show a;} catch c {show b;}", YES, NO, YES)
        self.ends(5, "try {throw a; show a;} catch c {show c;}", YES, NO, YES)
        self.ends(1, "try {} catch c {show b;}", YES, NO)
        self.ends(3, "try {throw a;} catch c {}", YES, NO)

    def test_turns_of_a_while(self):
        self.ends(2, "while a {show a;}", NO, YES)
        self.ends(5, "while a {let a = no;}", YES, NO)
        # Each time the condition, and the statements; the while itself once.
        self.ends(1 + 2 * 5 + 1, "while a {let a = b; let b = no;}", YES, YES)
        self.ends(1 + 1 * 9 + 3, "while a == yes {show b; let a = b; let b = no;}", YES, NO, NO)

    def test_the_example_of_the_interface(self):
        body = (("while", ("name", "a"), (("let", "a", ("value", ("bit", "no"))),)),)
        program = Program(ground(), [("main", ("a",), body)])
        self.assertEqual(tree_run(program, BOOK, "main", [YES], 5), ([], ("returned", NONE)))
        self.assertEqual(tree_run(program, BOOK, "main", [YES], 4), ([], None))
        self.assertEqual(tree_run(program, BOOK, "main", [NO], 2), ([], ("returned", NONE)))

    def test_nested_statements(self):
        text = "while a {if b {show b; let b = no;} else {try {throw a;} catch c {show c; let a = no;}}} show a;"
        self.ends(21, text, YES, YES, YES, YES, NO)

    def test_return_out_of_all(self):
        text = "while a {try {if a {while a {return b;}}} catch c {show c;}} show a;"
        self.assertEqual(self.takes(9, text, YES, NO), ([], ("returned", NO)))
        # Out of a function that is called in the middle of an expression.
        program = program_of("fun main(a) {show a == call &f(a); show a;} fun f(x) {while x {try {return x;} catch y"
                             " {}}}")
        self.assertEqual(tree_run(program, BOOK, "main", [YES], FAR)[0], [YES, YES])

    def test_the_name_of_a_catch(self):
        self.ends(7, "try {throw b;} catch a {show a;} show a;", YES, NO, NO, NO)
        # Nothing is thrown: the name stays.
        self.assertEqual(self.takes(5, "try {b;} catch a {} show a;", YES, NO)[0], [YES])

    def test_handlers(self):
        # In the handler and behind the try nothing is caught.
        self.assertEqual(self.takes(5, "try {throw a;} catch c {throw b;}", YES, NO), ([], ("thrown", NO)))
        self.assertEqual(self.takes(5, "try {a;} catch c {show a;} throw b;", YES, NO), ([], ("thrown", NO)))
        # The inner one comes first, and the outer one has what the inner handler throws.
        text = "try {try {throw a;} catch c {show c; throw b;} show a;} catch d {show d;}"
        self.ends(10, text, YES, NO, YES, NO)
        # A try that has ended does not catch any more.
        self.ends(10, "try {try {a;} catch c {show c;} throw b;} catch d {show d; d;}", YES, NO, NO)

    def test_values_behind_a_catch(self):
        # The operands that waited when something was thrown are gone.
        text = "try {show add(#num:1, add(#num:2, $nowhere));} catch c {show c;} show add(#num:1, #num:1);"
        self.assertEqual(self.takes(13, text)[0], [err("global"), num(2)])
        program = program_of("fun main() {show #num:1 == call &f();} fun f() {try {add(#num:1, call &g(yes));} catch c"
                             " {return #num:1;}} fun g(x) {throw x == x;}")
        self.assertEqual(tree_run(program, BOOK, "main", [], FAR)[0], [YES])


class Errors(TreeTest):
    """Each error of S3.3, by rows and by trees."""

    NO_OBJECTS = (NONE, YES, num(0), err("object"), fun("one"))

    def test_object(self):
        for value in self.NO_OBJECTS:
            for text in ("a.f;", "a.f = yes;", "drop a.f;", "a.m();", "a.m(yes, yes);"):
                self.throws("object", text, value)
        for value in self.NO_OBJECTS[1:]:
            self.throws("object", "new(a);", value)

    def test_field(self):
        made = "let a = new(none); a.f = yes; let a = new(a);"
        self.throws("field", made + "a.nowhere;")
        self.throws("field", made + "drop a.nowhere;")
        self.throws("field", made + "drop a.f;")
        self.throws("field", made + "a.nowhere();")

    def test_deep(self):
        self.throws("deep", "new(new(new(new(none))));")
        self.assertEqual(tree("show new(new(new(none)));")[0], [("obj", 2)])

    def test_global(self):
        self.throws("global", "$nowhere;")

    def test_kind(self):
        for text in ("neg(a);", "add(a, a);", "neg(#col:0);", "neg(#num:0, #num:0);", "add(#num:0);", "idle(#num:0);",
                     "idle(#num:0, #num:0);", "less(#col:0, #num:0);"):
            self.throws("kind", text, NONE)

    def test_bit(self):
        for value in self.NO_OBJECTS[:1] + self.NO_OBJECTS[2:]:
            self.throws("bit", "if a {}", value)
            self.throws("bit", "while a {}", value)

    def test_function(self):
        for value in (NONE, YES, num(0), err("one"), fun("far"), fun("nowhere")):
            self.throws("function", "call a();", value)
            self.throws("function", "call a(a, a, a);", value)
        self.throws("function", "let a = new(none); a.m = yes; a.m();")
        self.throws("function", "let a = new(none); a.m = a; a.m(a, a, a);")

    def test_count(self):
        for text in ("call &one();", "call &one(a, a);", "call &nought(a);", "call &two(a);"):
            self.throws("count", text)
        made = "let a = new(none); a.one = &one; a.two = &two; a.nought = &nought;"
        for text in ("a.one(a);", "a.two();", "a.two(a, a);", "a.nought();"):
            self.throws("count", made + text)

    def test_operands_come_first(self):
        for text in ("a.f = $g;", "call a($g);", "a.m($g);", "neg($g);", "add(a, $g);", "if $g {}", "while $g {}",
                     "new($g);", "a == $g;", "throw $g;", "return $g;", "show $g;", "$h = $g;", "$g.f;", "$g.f = a.f;",
                     "drop $g.f;", "let c = $g;"):
            self.throws("global", text, NONE)
        self.throws("object", "a.f = a.g;", NONE)
        self.throws("object", "(a.f).g = $g;", NONE)

    def test_a_let_that_throws_changes_nothing(self):
        self.assertEqual(tree("try {let a = $g;} catch c {} show a;", YES)[0], [YES])

    def test_thrown_values(self):
        for value in (NONE, YES, num(1), err("e"), fun("one")):
            self.assertEqual(self.takes(2, "throw a;", value), ([], ("thrown", value)))
        # The locals of the function that catches are there again, and its own objects.
        program = program_of("fun main(a) {let b = new(none); try {call &f(b);} catch c {show c; show a; show b;}} "
                             "fun f(a) {let b = new(a); call &g(b);} fun g(a) {throw new(a);}")
        shown = [("obj", 2), YES, ("obj", 0)]
        self.assertEqual(tree_run(program, BOOK, "main", [YES], FAR), (shown, ("returned", NONE)))


class Limits(TreeTest):
    def test_nought_and_one(self):
        self.assertEqual(tree("", limit=0), ([], ("returned", NONE)))
        self.assertEqual(tree("show a;", limit=0), ([], None))
        self.assertEqual(tree("show a;", limit=1), ([], None))
        self.assertEqual(tree("show a;", limit=2), ([NONE], ("returned", NONE)))
        self.assertEqual(tree("return a;", YES, limit=1), ([], None))
        self.assertEqual(tree("return a;", YES, limit=2), ([], ("returned", YES)))

    def test_what_is_shown_at_a_limit(self):
        text = "show a; show b; show a; throw b;"
        for limit, many in enumerate((0, 0, 1, 1, 2, 2, 3, 3)):
            self.assertEqual(tree(text, YES, NO, limit), ([YES, NO, YES][:many], None))
        self.assertEqual(tree(text, YES, NO, 8), ([YES, NO, YES], ("thrown", NO)))

    def test_a_limit_inside_a_call_and_a_handler(self):
        text = "show a; try {throw call &one(b);} catch c {show c;}"
        shown, end = self.takes(11, text, YES, NO)
        self.assertEqual((shown, end), ([YES, NO], ("returned", NONE)))

    def test_endless(self):
        self.assertEqual(tree("while a {show b;}", YES, NO), ([NO] * 999, None))
        self.assertEqual(tree("while a {}", YES, NO), ([], None))
        self.assertEqual(tree("while a {show b;}", YES, NO, 3001), ([NO] * 1000, None))

    def test_the_list_is_new(self):
        told = tree("show a;", YES)[0]
        told.append(NO)
        self.assertEqual(tree("show a;", YES)[0], [YES])


class DeepCalls(TreeTest):
    def test_endless_recursion(self):
        program = program_of("fun main(a) {show a; call a(a);}")
        shown, end = tree_run(program, BOOK, "main", [fun("main")], FAR)
        # Six turns for each call.
        self.assertEqual((len(shown), end), (500, None))
        # As deep as calls can be: three turns for each one.
        for text in ("fun main() {call &main();}", "fun main() {return call &main();}",
                     "fun main() {let x = call &main();}", "fun main() {throw call &main();}"):
            self.assertEqual(tree_run(program_of(text), BOOK, "main", [], FAR), ([], None))

    def test_deep_calls_that_return(self):
        # Numbers up to 400: each call adds one until there is no more.
        book = big_book(401)
        program = program_of("fun main(n) {if n == #num:400 {return n;} return call &main(add(n, #num:1));}")
        shown, end = tree_run(program, book, "main", [num(0)], 400 * 10 + 6)
        self.assertEqual((shown, end), ([], ("returned", num(400))))
        self.assertEqual(tree_run(program, book, "main", [num(0)], 400 * 10 + 5), ([], None))

    def test_a_throw_through_deep_calls(self):
        program = program_of("fun main(n) {try {call &down(n);} catch e {show e; show n;}} "
                             "fun down(n) {if n == #num:290 {throw n;} call &down(add(n, #num:1));}")
        shown, end = tree_run(program, big_book(291), "main", [num(0)], FAR)
        self.assertEqual((shown, end), ([num(290), num(0)], ("returned", NONE)))

    def test_an_error_below_a_chain_of_objects(self):
        text = ("fun main(a) {let a = new(none); let b = a; while call &more() {let c = new(none); c.n = b; let b = c;}"
                " try {call &down(b);} catch e {show e;}} fun down(x) {call &down(x.n);} fun more() {"
                "try {$k = add($k, #num:1);} catch e {$k = #num:0;} return less($k, #num:90);}")
        program = program_of(text)
        shown, end = tree_run(program, big_book(100), "main", [NONE], FAR)
        self.assertEqual((shown, end), ([err("field")], ("returned", NONE)))


def big_book(size):
    """A book with this number of tokens of num; add is limited by the greatest token."""
    return Book(ground(), {"num": size, "col": 2}, {
        "addnum": [min(a + b, size - 1) for a in range(size) for b in range(size)],
        "paint": [0] * (2 * size),
        "negnum": [0] * size,
        "lessnum": ["yes" if a < b else "no" for a in range(size) for b in range(size)],
    })


class Wrong(TreeTest):
    """The errors of start, in their order."""

    def raises(self, kind, word, *arguments):
        with self.assertRaises(kind) as caught:
            tree_run(*arguments)
        self.assertEqual(caught.exception.name if kind is NoFunction else caught.exception.word, word)

    def test_no_function(self):
        program = program_with("show #num:2;")
        small = Book(ground(), {"num": 1, "col": 1}, {"addnum": [0], "paint": [0], "negnum": [0], "lessnum": ["no"]})
        for name in ("nowhere", "", None, 0, True, [], {}, ("main",), ["main"]):
            self.raises(NoFunction, name, program, BOOK, name, [NONE, NONE], 9)
            self.raises(NoFunction, name, program, small, name, [], 9)
        self.raises(BadState, "book", program, small, "main", [NONE, NONE], 9)
        self.raises(BadState, "book", program, small, "main", [NONE], 0)

    def test_arguments(self):
        program = program_with("show a;")
        for arguments in ([], [NONE], [NONE] * 3, [NONE, ("obj", 0)], [num(3), NONE], [NONE, None], None, 2, "ab",
                          {0: NONE, 1: NONE}, [NONE, ["none"]]):
            self.raises(BadState, "frames", program, BOOK, "main", arguments, 9)
            self.raises(BadState, "frames", program, BOOK, "main", arguments, 0)
        self.assertEqual(tree_run(program, BOOK, "main", (YES, NONE), 9)[0], [YES])

    def test_arguments_stay(self):
        arguments = [YES, NO]
        tree_run(program_with("let a = b; show a;"), BOOK, "main", arguments, 9)
        self.assertEqual(arguments, [YES, NO])


class AgainstOthers(TreeTest):
    """Drawn programs by rows, by trees, and by the model of the tests."""

    def agrees(self, functions):
        program = Program(ground(), functions)
        shown, end = tree_run(program, BOOK, "main", [], FAR)
        model = TreeRun(program, BOOK, FAR).main("main", [])
        self.assertEqual((shown, end), (model.shown, model.end))
        state, steps = run(start(program, BOOK, "main", []), 3 * FAR)
        if end is not None and state.end() is not None:
            self.assertEqual((shown, end), (state.shown(), state.end()))
        else:
            many = min(len(shown), len(state.shown()))
            self.assertEqual(shown[:many], state.shown()[:many])
        if end is not None:
            turns = FAR - model.turns
            self.assertEqual(tree_run(program, BOOK, "main", [], turns), (shown, end))
            self.assertIsNone(tree_run(program, BOOK, "main", [], turns - 1)[1])
        return steps if end is not None else 0

    def test_random_programs(self):
        limit = sys.getrecursionlimit()
        sys.setrecursionlimit(30000)
        try:
            for seed in range(1000, 1150):
                self.agrees(Maker(seed).functions())
            steps = [self.agrees(Maker(seed).lively_functions()) for seed in range(1000, 1400)]
        finally:
            sys.setrecursionlimit(limit)
        self.assertGreater(sum(steps), 20 * len(steps))


if __name__ == "__main__":
    unittest.main()
