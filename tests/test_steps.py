"""Steps of the plain machine (S3.3, S3.4), also against runs of trees (S3.6); shapeguess/steps.py."""

import sys
import unittest

from samples import NONE, NO, YES, Maker, ground, ground_book, num, program_of
from shapeguess.errors import BadState
from shapeguess.states import State, start
from shapeguess.steps import run, step
from shapeguess.trees import Program
from treemodel import TreeRun

BOOK = ground_book()
OTHERS = "fun two(x, y) {return y;} fun one(x) {return x;} fun nought() {return yes;}"
# Object 2 is below 1, which is below 0; object 3 is below 0; object 4 stands alone.
OBJECTS = [
    (None, (("f", num(0)), ("m", ("fun", "one")))), (0, (("g", num(1)), ("f", num(2)))), (1, ()), (0, (("f", YES),)),
    (None, (("m", num(0)), ("far", ("fun", "far")), ("self", ("obj", 4)), ("two", ("fun", "two")))),
]


def obj(number):
    return ("obj", number)


def err(word):
    return ("err", word)


def fun(word):
    return ("fun", word)


def at_start(text, a=NONE, b=NONE, objects=(), told=None, shown=()):
    """The state at the first row of main(a, b) with this body."""
    program = program_of("fun main(a, b) {" + text + "} " + OTHERS)
    frame = start(program, BOOK, "main", [NONE, NONE]).frames()[0]
    return State(program, BOOK, [("main", 0, (a, b) + frame[2][2:])], list(objects), told or {}, list(shown))


class StepTest(unittest.TestCase):
    def stands(self, state, row, *places):
        """The only frame stands at a row, with these first registers."""
        self.assertEqual(len(state.frames()), 1)
        name, number, registers = state.frames()[0]
        self.assertEqual((name, number, registers[:len(places)]), ("main", row, places))
        self.assertIsNone(state.end())

    def ends(self, state, word, value):
        self.assertEqual(state.end(), (word, value))
        self.assertEqual(state.frames(), [])

    def throws(self, word, text, a=NONE, b=NONE, objects=OBJECTS, told=None):
        """One step throws an error and does nothing else."""
        state = at_start(text, a, b, objects, told, [YES])
        after = step(state)
        self.ends(after, "thrown", err(word))
        self.assertEqual(after.objects(), list(objects))
        self.assertEqual((after.global_values(), after.shown()), (told or {}, [YES]))

    def same_elsewhere(self, before, after):
        self.assertEqual(before.objects(), after.objects())
        self.assertEqual(before.global_values(), after.global_values())
        self.assertEqual(before.shown(), after.shown())
        self.assertEqual(before.program(), after.program())
        self.assertEqual(before.book(), after.book())


class PlainRows(StepTest):
    def test_const(self):
        for text, value in (("none", NONE), ("yes", YES), ("#num:2", num(2)), ("!e", err("e")), ("&main", fun("main"))):
            state = at_start("let b = " + text + ";", YES, NO)
            self.stands(step(state), 1, YES, value)
            self.same_elsewhere(state, step(state))

    def test_move(self):
        self.stands(step(at_start("let b = a;", obj(0), NO, OBJECTS)), 1, obj(0), obj(0))

    def test_put_and_global(self):
        state = step(at_start("$g = a; let b = $g;", YES, NO, told={"h": NONE}))
        self.stands(state, 1, YES, NO)
        self.assertEqual(state.global_values(), {"h": NONE, "g": YES})
        self.stands(step(state), 2, YES, YES)
        state = step(at_start("$g = a;", YES, told={"g": NONE, "h": NO}))
        self.assertEqual(state.global_values(), {"g": YES, "h": NO})

    def test_get(self):
        for number, field, value in ((0, "f", num(0)), (1, "f", num(2)), (2, "f", num(2)), (3, "f", YES),
                                     (2, "g", num(1)), (2, "m", fun("one")), (3, "m", fun("one")), (4, "self", obj(4))):
            state = at_start("let b = a." + field + ";", obj(number), NONE, OBJECTS)
            self.stands(step(state), 1, obj(number), value)
            self.same_elsewhere(state, step(state))

    def test_set(self):
        rows = (
            (0, "f", (None, (("f", YES), ("m", fun("one"))))),
            (0, "m", (None, (("f", num(0)), ("m", YES)))),
            (0, "z", (None, (("f", num(0)), ("m", fun("one")), ("z", YES)))),
            # A field of an object above is not the object's own.
            (2, "g", (1, (("g", YES),))),
            (1, "a", (0, (("g", num(1)), ("f", num(2)), ("a", YES)))),
        )
        for number, field, plain in rows:
            state = step(at_start("a." + field + " = b;", obj(number), YES, OBJECTS))
            self.stands(state, 1, obj(number), YES)
            self.assertEqual(state.objects(), OBJECTS[:number] + [plain] + OBJECTS[number + 1:])

    def test_an_object_in_its_own_field(self):
        state = step(at_start("a.f = a;", obj(3), NONE, OBJECTS))
        self.assertEqual(state.objects()[3], (0, (("f", obj(3)),)))

    def test_drop(self):
        rows = ((0, "f", (None, (("m", fun("one")),))), (1, "g", (0, (("f", num(2)),))), (3, "f", (0, ())))
        for number, field, plain in rows:
            state = step(at_start("drop a." + field + ";", obj(number), YES, OBJECTS))
            self.stands(state, 1, obj(number), YES)
            self.assertEqual(state.objects(), OBJECTS[:number] + [plain] + OBJECTS[number + 1:])

    def test_drop_and_set_again(self):
        state, _ = run(at_start("drop a.g; a.g = b;", obj(1), YES, OBJECTS), 2)
        self.assertEqual(state.objects()[1], (0, (("f", num(2)), ("g", YES))))

    def test_new(self):
        state = step(at_start("let b = new(a);"))
        self.stands(state, 1, NONE, obj(0))
        self.assertEqual(state.objects(), [(None, ())])
        for number in (0, 1, 3, 4):
            state = step(at_start("let b = new(a);", obj(number), NONE, OBJECTS))
            self.stands(state, 1, obj(number), obj(5))
            self.assertEqual(state.objects(), OBJECTS + [(number, ())])

    def test_prim(self):
        for text, a, b, value in (("neg(a)", num(1), NONE, num(2)), ("add(a, b)", num(2), num(2), num(1)),
                                  ("add(b, a)", ("tok", "col", 1), num(0), ("tok", "col", 1)),
                                  ("less(a, b)", num(0), num(2), YES), ("less(b, a)", num(0), num(2), NO)):
            state = at_start("let b = " + text + ";", a, b)
            self.stands(step(state), 1, a, value)
            self.same_elsewhere(state, step(state))

    def test_same(self):
        values = (NONE, YES, NO, num(0), num(1), ("tok", "col", 0), err("e"), err("f"), fun("e"), obj(0), obj(1))
        for one in values:
            for other in values:
                state = step(at_start("let b = a == b;", one, other, OBJECTS))
                self.stands(state, 1, one, YES if one == other else NO)

    def test_jump_and_test(self):
        text = "if a {show a;} else {show b;} show a;"
        self.stands(step(at_start(text, YES, NO)), 1, YES, NO)
        self.stands(step(at_start(text, NO, YES)), 3, NO, YES)
        state, _ = run(at_start(text, YES, NO), 2)
        self.stands(step(state), 4, YES, NO)
        self.assertEqual(step(state).shown(), [YES])
        state, _ = run(at_start("while a {let a = b;}", YES, NO), 2)
        self.stands(state, 2, NO, NO)
        self.stands(step(state), 0, NO, NO)

    def test_show(self):
        state = step(at_start("show a;", obj(0), NONE, OBJECTS, shown=[NONE, YES]))
        self.stands(state, 1, obj(0))
        self.assertEqual(state.shown(), [NONE, YES, obj(0)])

    def test_other_registers_stay(self):
        state, steps = run(at_start("let c = yes; let d = no; let c = d; let b = a;", YES), 4)
        self.assertEqual((state.frames()[0][1:], steps), ((4, (YES, YES, NO, NO, NONE)), 4))


class Errors(StepTest):
    ALL = (NONE, YES, num(0), err("object"), fun("one"), obj(0))

    def test_object(self):
        for value in self.ALL[:-1]:
            for text in ("let b = a.f;", "a.f = b;", "drop a.f;", "let b = a.m();", "let b = a.m(a, a, a);"):
                self.throws("object", text, value)
            # "object" comes before "field".
            for text in ("let b = a.nowhere;", "drop a.nowhere;", "let b = a.nowhere();"):
                self.throws("object", text, value)

    def test_field(self):
        for number, field in ((4, "f"), (0, "g"), (3, "g"), (2, "self")):
            self.throws("field", "let b = a." + field + ";", obj(number))
            self.throws("field", "let b = a." + field + "(a, a, a);", obj(number))
            self.throws("field", "drop a." + field + ";", obj(number))
        # What only an object above has cannot be dropped.
        for number, field in ((2, "f"), (1, "m"), (3, "m")):
            self.throws("field", "drop a." + field + ";", obj(number))

    def test_new(self):
        for value in self.ALL[1:-1]:
            self.throws("object", "let b = new(a);", value)
        self.throws("deep", "let b = new(a);", obj(2))

    def test_global(self):
        self.throws("global", "let b = $g;", told={"h": NONE})

    def test_prim(self):
        col = ("tok", "col", 0)
        rows = (
            ("neg(a)", NONE, NONE), ("neg(a)", col, NONE), ("neg(a)", YES, NONE), ("neg(a)", obj(0), NONE),
            ("add(a, b)", col, num(0)), ("add(a, b)", num(0), NONE), ("add(a, b)", NONE, num(0)),
            ("less(a, b)", col, col),
            # A number of arguments that no variant has.
            ("neg(a, a)", num(0), NONE), ("add(a)", num(0), NONE), ("idle(a)", num(0), NONE),
            ("idle(a, b)", num(0), num(0)),
        )
        for text, a, b in rows:
            self.throws("kind", "let b = " + text + ";", a, b)

    def test_test(self):
        for value in (NONE, num(0), err("bit"), fun("yes"), obj(0)):
            self.throws("bit", "if a {}", value)
            self.throws("bit", "while a {}", value)

    def test_call(self):
        for value in (NONE, YES, num(0), err("one"), obj(0), fun("far"), fun("nowhere")):
            # "function" comes before "count".
            self.throws("function", "let b = call a();", value)
            self.throws("function", "let b = call a(a, a, a);", value)
        self.throws("count", "let b = call a();", fun("one"))
        self.throws("count", "let b = call a(a);", fun("nought"))
        self.throws("count", "let b = call a(a, a);", fun("one"))
        self.throws("count", "let b = call a(a);", fun("two"))

    def test_method(self):
        for field in ("m", "far", "self"):
            self.throws("function", "let b = a." + field + "();", obj(4))
            self.throws("function", "let b = a." + field + "(a, a);", obj(4))
        self.throws("count", "let b = a.m(a);", obj(0))
        self.throws("count", "let b = a.m(a);", obj(2))
        self.throws("count", "let b = a.two();", obj(4))
        self.throws("count", "let b = a.two(a, a);", obj(4))
        objects = [(None, (("m", fun("nought")),))]
        self.throws("count", "let b = a.m();", obj(0), objects=objects)

    def test_operands_come_first(self):
        # The row of an operand throws before the row that would use it.
        self.throws("global", "a.f = $g;", NONE)
        self.throws("global", "let b = call a($g);", NONE)
        self.throws("global", "let b = neg($g);")
        self.throws("global", "if $g {}")


class Calls(StepTest):
    def test_call(self):
        state = at_start("let b = call a(b, a); show b;", fun("two"), YES)
        inside = step(state)
        self.assertEqual(inside.frames(), [
            ("main", 0, (fun("two"), YES, NONE)), ("two", 0, (YES, fun("two"), NONE)),
        ])
        self.same_elsewhere(state, inside)
        after = step(inside)
        self.stands(after, 1, fun("two"), fun("two"))

    def test_registers_of_the_called_function(self):
        program = program_of("fun main(a) {call a(yes);} fun f(x) {let y = x; let z = neg(y); show add(z, z);}")
        inside, _ = run(start(program, BOOK, "main", [fun("f")]), 2)
        self.assertEqual(inside.frames()[1], ("f", 0, (YES, NONE, NONE, NONE)))

    def test_method(self):
        state = at_start("let b = a.two(b);", obj(4), YES, OBJECTS)
        inside = step(state)
        self.assertEqual(inside.frames(), [("main", 0, (obj(4), YES, NONE)), ("two", 0, (obj(4), YES, NONE))])
        # A method that an object above has gets the object itself.
        inside = step(at_start("let b = a.m();", obj(2), NONE, OBJECTS))
        self.assertEqual(inside.frames()[1], ("one", 0, (obj(2), NONE)))
        self.stands(step(inside), 1, obj(2), obj(2))

    def test_recursion(self):
        program = program_of("fun main(n) {if less(n, #num:2) {show n; return call &main(add(n, #num:1));} return n;}")
        state, steps = run(start(program, BOOK, "main", [num(0)]), 99)
        self.ends(state, "returned", num(2))
        self.assertEqual(state.shown(), [num(0), num(1)])
        # Two rounds of const, less, test, show, const, const, add, call; then const, less, test; three returns.
        self.assertEqual(steps, 2 * 8 + 3 + 3)

    def test_result_into_a_temporary(self):
        state, _ = run(at_start("show call a(b);", fun("one"), YES), 3)
        self.assertEqual(state.shown(), [YES])
        self.stands(state, 2, fun("one"), YES, YES)

    def test_end_of_a_function(self):
        program = program_of("fun main(a) {show call a(a);} fun f(x) {}")
        state, _ = run(start(program, BOOK, "main", [fun("f")]), 99)
        self.assertEqual((state.end(), state.shown()), (("returned", NONE), [NONE]))

    def test_waiting_frames_stay(self):
        program = program_of("fun main(a) {let b = yes; call a(a);} fun f(x) {x;}")
        state, _ = run(start(program, BOOK, "main", [fun("f")]), 3)
        self.assertEqual(state.frames()[0], ("main", 1, (fun("f"), YES, NONE)))

    def test_return_ends(self):
        self.ends(step(at_start("return a;", YES)), "returned", YES)
        self.ends(step(at_start("return a;", obj(1), NONE, OBJECTS)), "returned", obj(1))
        self.ends(run(at_start(""), 2)[0], "returned", NONE)


class Throws(StepTest):
    def test_thrown_without_a_handler(self):
        for value in (NONE, YES, num(1), err("e"), fun("one")):
            self.ends(step(at_start("throw a;", value)), "thrown", value)
        self.ends(step(at_start("throw a;", obj(1), NONE, OBJECTS)), "thrown", obj(1))

    def test_handler_in_the_same_function(self):
        state = at_start("try {throw a; show a;} catch e {show e;}", YES)
        after = step(state)
        self.stands(after, 3, YES, NONE, YES)
        self.assertEqual(step(after).shown(), [YES])
        after = step(at_start("try {let b = a.f;} catch b {show b;}", YES))
        self.stands(after, 2, YES, err("object"))

    def test_a_row_that_throws_writes_nothing(self):
        after = step(at_start("try {let b = a.f;} catch e {show e;}", YES, NO))
        self.stands(after, 2, YES, NO, err("object"))

    def test_inner_and_outer_handlers(self):
        text = "try {try {throw a;} catch b {throw b;} show a;} catch c {show c;}"
        after = step(at_start(text, YES))
        self.stands(after, 2, YES, YES, NONE)
        after = step(after)
        self.stands(after, 5, YES, YES, YES)

    def test_not_covered(self):
        # The handler, the rows ahead of the try and those behind it are not covered.
        for text in ("try {let b = a;} catch b {} throw a;", "throw a; try {let b = a;} catch b {}",
                     "try {throw a;} catch b {throw b;}"):
            self.ends(run(at_start(text, YES), 9)[0], "thrown", YES)

    def test_handler_around_a_call(self):
        program = program_of("fun main(a) {try {let a = call a(a); show a;} catch b {show b;}} fun f(x) {throw !far;}")
        state, _ = run(start(program, BOOK, "main", [fun("f")]), 2)
        self.assertEqual(len(state.frames()), 2)
        after = step(state)
        self.assertEqual(after.frames(), [("main", 3, (fun("f"), err("far"), NONE))])

    def test_through_frames(self):
        program = program_of(
            "fun main(a) {try {call &f(a);} catch b {show b;}} fun f(x) {call &g(x);} "
            "fun g(x) {try {show x;} catch y {} call &h(x); try {show x;} catch y {}} fun h(x) {throw x;}"
        )
        state, steps = run(start(program, BOOK, "main", [YES]), 8)
        self.assertEqual([frame[0] for frame in state.frames()], ["main", "f", "g", "h"])
        after = step(state)
        self.assertEqual(after.frames(), [("main", 3, (YES, YES, fun("f")))])
        self.assertEqual(steps, 8)

    def test_errors_of_a_call_row_are_thrown_in_the_calling_frame(self):
        after = step(at_start("try {call a();} catch b {show b;}", fun("one")))
        self.stands(after, 2, fun("one"), err("count"))

    def deep(self, text):
        """A state at the start of main(a) with this body, where a is the first one of 990 objects in a row."""
        program = program_of("fun main(a, b) {" + text + "} fun down(x) {call &down(x.n);}")
        objects = [(None, (("n", obj(number + 1)),)) for number in range(989)] + [(None, ())]
        return State(program, BOOK, [("main", 0, (obj(0), NONE, NONE))], objects, {}, [])

    def test_an_error_through_deep_calls(self):
        state = self.deep("try {call &down(a);} catch b {show b;}")
        inside, steps = run(state, 2970)
        self.assertEqual((len(inside.frames()), steps), (991, 2970))
        after = step(inside)
        self.stands(after, 3, obj(0), err("field"))
        after, steps = run(state, 3000)
        self.ends(after, "returned", NONE)
        self.assertEqual((steps, after.shown()), (2974, [err("field")]))

    def test_an_error_through_deep_calls_without_a_handler(self):
        after, steps = run(self.deep("call &down(a);"), 3000)
        self.ends(after, "thrown", err("field"))
        self.assertEqual(steps, 2971)

    def test_calls_as_deep_as_3000_steps_allow(self):
        program = program_of("fun main(a) {call a(a);}")
        state, steps = run(start(program, BOOK, "main", [fun("main")]), 3000)
        self.assertEqual((steps, len(state.frames())), (3000, 3001))
        broken = State(program, BOOK, state.frames()[:-1] + [("main", 0, (NONE, NONE))], [], {}, [])
        self.ends(step(broken), "thrown", err("function"))
        # Row 1 and 2 return, once for each frame.
        back = State(program, BOOK, state.frames()[:-1] + [("main", 1, (YES, YES))], [], {}, [])
        after, steps = run(back, 9000)
        self.ends(after, "returned", NONE)
        self.assertEqual(steps, 6002)


class StatesAhead(StepTest):
    def test_the_state_ahead_stays(self):
        program = Program(ground(), Maker(3).lively_functions())
        state = start(program, BOOK, "main", [])
        told = []
        while state.end() is None and len(told) < 200:
            told.append((state, parts(state)))
            state = step(state)
        self.assertGreater(len(told), 20)
        for before, seen in told:
            self.assertEqual(parts(before), seen)

    def test_what_is_told_is_new(self):
        state = step(at_start("show a;", YES, NO, OBJECTS, {"g": NONE}, [NONE]))
        seen = parts(state)
        for told in (state.frames(), state.objects(), state.shown(), state.global_values()):
            told.clear()
        self.assertEqual(parts(state), seen)

    def test_states_behind_steps_are_as_if_they_were_made(self):
        state = start(Program(ground(), Maker(5).lively_functions()), BOOK, "main", [])
        while state.end() is None:
            again = State(state.program(), state.book(), state.frames(), state.objects(), state.global_values(),
                          state.shown())
            self.assertTrue(state == again and again == state)
            self.assertIsInstance(state, State)
            self.assertEqual(step(state), step(again))
            state = step(state)

    def test_no_step_behind_the_end(self):
        for text in ("return a;", "throw a;"):
            state = step(at_start(text, YES))
            with self.assertRaises(BadState) as caught:
                step(state)
            self.assertEqual(caught.exception.word, "end")

    def test_parts_of_a_state_with_an_end(self):
        state, _ = run(at_start("$g = a; show a; a.f = a; throw a;", obj(0), NONE, OBJECTS), 9)
        self.assertEqual(state.end(), ("thrown", obj(0)))
        self.assertEqual(state.frames(), [])
        self.assertEqual(state.global_values(), {"g": obj(0)})
        self.assertEqual(state.shown(), [obj(0)])
        self.assertEqual(state.objects(), [(None, (("f", obj(0)), ("m", fun("one"))))] + OBJECTS[1:])


def parts(state):
    return (state.frames(), state.objects(), state.global_values(), state.shown(), state.end())


class Runs(StepTest):
    TEXT = "show a; show b; return a;"

    def test_limits(self):
        state = at_start(self.TEXT, YES, NO)
        self.assertEqual(run(state, 0), (state, 0))
        self.assertEqual(run(state, 1), (step(state), 1))
        self.assertEqual(run(state, 2), (step(step(state)), 2))
        self.assertEqual(run(state, 3)[1], 3)
        for limit in (3, 4, 3000):
            after, steps = run(state, limit)
            self.ends(after, "returned", YES)
            self.assertEqual((steps, after.shown()), (3, [YES, NO]))
        self.assertIsInstance(run(state, 1), tuple)

    def test_a_state_with_an_end(self):
        ended, _ = run(at_start(self.TEXT, YES, NO), 9)
        for limit in (0, 1, 3000):
            self.assertEqual(run(ended, limit), (ended, 0))

    def test_one_run_is_many_steps(self):
        state = start(Program(ground(), Maker(8).lively_functions()), BOOK, "main", [])
        after = state
        for limit in range(60):
            made, steps = run(state, limit)
            self.assertEqual(made, after)
            if steps == limit:
                self.assertEqual(run(made, 7)[0], run(state, limit + 7)[0])
            if after.end() is None:
                after = step(after)

    def test_endless(self):
        state = at_start("while a {show b;}", YES, NO)
        after, steps = run(state, 3000)
        self.assertEqual((steps, len(after.shown()), after.end()), (3000, 1000, None))

    def test_statements_without_effect(self):
        program = program_of("fun main() {try {} catch e {} if yes {none;} else {no;} while no {} &main; return !e;}")
        state, steps = run(start(program, BOOK, "main", []), 99)
        # jump, const, test, const, jump, const, test, const, const, return.
        self.assertEqual((state.end(), steps), (("returned", err("e")), 10))


class AgainstTrees(StepTest):
    """The run by rows shows and ends as the run by trees does."""

    def agrees(self, functions):
        program = Program(ground(), functions)
        state, steps = run(start(program, BOOK, "main", []), 2000)
        model = TreeRun(program, BOOK, 20000 if state.end() else 2000).main("main", [])
        if state.end() is None:
            many = min(len(model.shown), len(state.shown()))
            self.assertIsNone(model.end)
            self.assertEqual(state.shown()[:many], model.shown[:many])
            return 0
        self.assertEqual((state.end(), state.shown()), (model.end, model.shown))
        self.assertEqual(state.global_values(), model.globals)
        made = [(plain["parent"], tuple(plain["fields"].items())) for plain in model.objects]
        self.assertEqual(state.objects(), made)
        return steps

    def test_random_programs(self):
        limit = sys.getrecursionlimit()
        sys.setrecursionlimit(30000)
        try:
            for seed in range(150):
                self.agrees(Maker(seed).functions())
            steps = [self.agrees(Maker(seed).lively_functions()) for seed in range(500)]
        finally:
            sys.setrecursionlimit(limit)
        self.assertGreater(sum(steps), 20 * len(steps))


if __name__ == "__main__":
    unittest.main()
