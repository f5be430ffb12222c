"""Quick rows carried out, and runs of pieces (S7.4, S7.6); shapeguess/quickrun.py."""

import unittest

from samples import NONE, NO, YES, Maker, ground, ground_book, num, program_of
from shapeguess.books import Book
from shapeguess.errors import UnknownName
from shapeguess.points import entered
from shapeguess.quick import Version, piece, steps_told
from shapeguess.quickrun import quick_run, quick_step, run_path
from shapeguess.rebuilding import held_of
from shapeguess.shapes import Shapes
from shapeguess.states import start
from shapeguess.steps import run, step
from shapeguess.trees import Program
from slowversion import slow_version
from versionsample import PROGRAM, end, sample

BOOK = ground_book()
NO_NUMBERS = (None, True, False, -1, 10 ** 40, "", "0", (), (0,), [], {}, Shapes())
# n is object 0, o is object 1; object 2 is below 1, which is below 0.
OBJECTS = [(None, (("f", num(1)), ("g", YES))), (0, (("g", NO),)), (1, ()), (None, (("m", ("fun", "f")),))]
BINDING = [0, 1]
END = end(5, 2)
CALLS = program_of("fun main(a, b) {} fun none0() {} fun one(x) {} fun two(x, y) {}")


def obj(number):
    return ("obj", number)


def held_part():
    return (list(OBJECTS), {"g": num(2)}, [NO])


class QuickTest(unittest.TestCase):
    def version(self, *rows, registers=5):
        return Version("main", ["n", "o"], [], registers, list(rows), [(0, (), ()), (1, (), ())])

    def told(self, row, registers, held=None, program=PROGRAM, book=BOOK):
        """What one row tells, which stands at number 1; what is handed in stays as it is."""
        held = held or held_part()
        given = (list(registers), list(BINDING), (list(held[0]), dict(held[1]), list(held[2])))
        version = self.version(("point", 0), row, ("show", 0))
        told = quick_step(program, book, version, given[1], 1, given[0], given[2])
        self.assertEqual(given, (list(registers), BINDING, tuple(held)))
        self.assertIsInstance(told, tuple)
        self.assertEqual([type(part) for part in told[2:4]], [list, tuple])
        self.assertEqual([type(part) for part in told[3]], [list, dict, list])
        again = quick_step(program, book, version, tuple(BINDING), 1, tuple(registers),
                           (tuple(held[0]), held[1], tuple(held[2])))
        self.assertEqual(told, again)
        # The lists and dicts are new.
        told[2].append(1)
        for part in told[3]:
            part.clear()
        self.assertEqual(given, (list(registers), BINDING, tuple(held)))
        return again

    def writes(self, row, registers, value, q=4):
        """The row puts a value into a register and does nothing else."""
        expected = list(registers)
        expected[q] = value
        self.assertEqual(self.told(row, registers), ("row", 2, expected, held_part()), row)

    def stays(self, word, row, registers, held=None, **more):
        """The row goes back or is stuck; registers and held are as before it."""
        told = self.told(row, registers, held, **more)
        self.assertEqual(told, (word, 1, list(registers), tuple(held or held_part())), row)

    def changes(self, row, registers, objects=None, told=None, shown=None):
        held = (objects or list(OBJECTS), told or {"g": num(2)}, shown or [NO])
        self.assertEqual(self.told(row, registers), ("row", 2, list(registers), held), row)


VALUES = (NONE, YES, NO, num(1), ("tok", "col", 1), ("err", "e"), ("fun", "f"), obj(2))


class SimpleRows(QuickTest):
    def test_const(self):
        for value in VALUES[:-1]:
            self.writes(("const", 4, value), [NONE, YES, NO, num(0), num(1)], value)
        self.writes(("const", 4, ("name", "n")), [NONE] * 5, obj(0))
        self.writes(("const", 4, ("name", "o")), [NONE] * 5, obj(1))

    def test_move(self):
        for value in VALUES:
            self.writes(("move", 4, 1), [NO, value, YES, NO, NO], value)
            self.writes(("move", 1, 1), [NO, value, YES, NO, NO], value, 1)

    def test_same(self):
        for one in VALUES + (obj(1), num(2)):
            for other in VALUES:
                self.writes(("same", 4, 0, 1), [one, other, NO, NO, NO], YES if one == other else NO)
        self.writes(("same", 0, 0, 0), [num(1), NO, NO, NO, NO], YES, 0)

    def test_put_and_show(self):
        for value in VALUES:
            self.changes(("put", "g", 1), [NO, value, YES, NO, NO], told={"g": value})
            self.changes(("put", "h", 1), [NO, value, YES, NO, NO], told={"g": num(2), "h": value})
            self.changes(("show", 1), [NO, value, YES, NO, NO], shown=[NO, value])

    def test_point(self):
        self.changes(("point", 1), [NONE] * 5)

    def test_jump_and_test(self):
        registers = [YES, NO, NONE, num(0), obj(0)]
        for k in (0, 1, 2, 77):
            self.assertEqual(self.told(("jump", k), registers), ("row", k, registers, held_part()))
            self.assertEqual(self.told(("test", 1, k), registers), ("row", k, registers, held_part()))
            self.assertEqual(self.told(("test", 0, k), registers), ("row", 2, registers, held_part()))
            for q in (2, 3, 4):
                self.stays("stuck", ("test", q, k), registers)

    def test_rows_that_finish_a_piece(self):
        registers = [YES, NO, NONE, num(0), obj(0)]
        for row, word in ((("link", 3, 1), "link"), (("link", 1, 0), "link"), (("return", 0, 2), "return"),
                          (("stop", END), "back")):
            self.stays(word, row, registers)


class GuessingRows(QuickTest):
    N = (None, ("f", "g"))
    O = ("n", ("g",))

    def test_load(self):
        self.writes(("load", 4, 0, self.N, "f"), [obj(0), NO, NO, NO, NO], num(1))
        self.writes(("load", 4, 0, self.N, "g"), [obj(0), NO, NO, NO, NO], YES)
        self.writes(("load", 4, 3, self.O, "g"), [NO, NO, NO, obj(1), NO], NO)
        self.writes(("load", 0, 0, self.N, "f"), [obj(0), NO, NO, NO, NO], num(1), 0)

    def test_store(self):
        self.changes(("store", 0, self.N, "f", 1), [obj(0), obj(2), NO, NO, NO],
                     [(None, (("f", obj(2)), ("g", YES)))] + OBJECTS[1:])
        self.changes(("store", 2, self.O, "g", 2), [NO, NO, obj(1), NO, NO],
                     OBJECTS[:1] + [(0, (("g", obj(1)),))] + OBJECTS[2:])

    def test_grow(self):
        self.changes(("grow", 0, self.N, "h", 1), [obj(0), NONE, NO, NO, NO],
                     [(None, (("f", num(1)), ("g", YES), ("h", NONE)))] + OBJECTS[1:])
        self.changes(("grow", 0, ("o", ()), "f", 0), [obj(2), NONE, NO, NO, NO],
                     OBJECTS[:2] + [(1, (("f", obj(2)),))] + OBJECTS[3:])

    def test_other_shapes(self):
        for number, shape in enumerate((self.N, self.O, ("o", ()), (None, ("m",)))):
            for value in VALUES[:-1] + tuple(obj(k) for k in range(4) if k != number):
                for row in (("load", 4, 0, shape, "f"), ("store", 0, shape, "f", 1), ("grow", 0, shape, "z", 1)):
                    self.stays("stuck", row, [value, NO, NO, NO, NO])
        # Another root, another order, fewer fields and more.
        for shape in (("n", ("f", "g")), ("o", ("f", "g")), (None, ("g", "f")), (None, ("f",)), (None, ("f", "g", "h"))):
            self.stays("stuck", ("load", 4, 0, shape, "f"), [obj(0), NO, NO, NO, NO])
            self.stays("stuck", ("grow", 0, shape, "z", 1), [obj(0), NO, NO, NO, NO])
            self.stays("stuck", ("store", 0, shape, "f", 1), [obj(0), NO, NO, NO, NO])

    def test_variant(self):
        self.writes(("variant", 4, "addnum", (0, 1)), [num(1), num(2), NO, NO, NO], num(0))
        self.writes(("variant", 4, "addnum", (1, 1)), [NONE, num(2), NO, NO, NO], num(1))
        self.writes(("variant", 4, "lessnum", (0, 1)), [num(1), num(2), NO, NO, NO], YES)
        self.writes(("variant", 4, "paint", (0, 1)), [num(2), ("tok", "col", 1), NO, NO, NO], ("tok", "col", 1))
        self.writes(("variant", 4, "negnum", (0,)), [num(1), NO, NO, NO, NO], num(2))
        for value in VALUES[:3] + VALUES[4:] + (num(3), num(10 ** 40)):
            self.stays("stuck", ("variant", 4, "negnum", (0,)), [value, NO, NO, NO, NO])
            self.stays("stuck", ("variant", 4, "addnum", (0, 1)), [num(0), value, NO, NO, NO])
            self.stays("stuck", ("variant", 4, "addnum", (1, 0)), [num(0), value, NO, NO, NO])
        # The book decides.
        book = Book(ground(), {"num": 1, "col": 1}, {"addnum": [0], "paint": [0], "negnum": [0], "lessnum": ["yes"]})
        self.stays("stuck", ("variant", 4, "negnum", (0,)), [num(1), NO, NO, NO, NO], book=book)


class CheckingRows(QuickTest):
    def test_check(self):
        registers = [obj(0), obj(1), num(1), num(1), NONE]
        rows = (
            (("kind", 0, "obj"), True), (("kind", 2, "num"), True), (("kind", 2, "obj"), False),
            (("is", 0, ("name", "n")), True), (("is", 0, ("name", "o")), False), (("is", 2, num(1)), True),
            (("is", 2, num(2)), False), (("shape", 0, (None, ("f", "g"))), True), (("shape", 1, ("n", ("g",))), True),
            (("shape", 1, ("o", ("g",))), False), (("shape", 2, (None, ())), False), (("same", 2, 3), True),
            (("same", 0, 1), False), (("unlike", 0, 1), True), (("unlike", 2, 3), False), (("kind", 4, "none"), True),
        )
        for fact, told in rows:
            if told:
                self.changes(("check", fact, END), registers)
            else:
                self.stays("back", ("check", fact, END), registers)

    def test_global(self):
        self.writes(("global", 4, "g", END), [NONE] * 5, num(2))
        self.stays("back", ("global", 4, "h", END), [NONE] * 5)

    def test_get(self):
        for k, f, value in ((0, "f", num(1)), (1, "f", num(1)), (2, "f", num(1)), (1, "g", NO), (2, "g", NO)):
            self.writes(("get", 4, 0, f, END), [obj(k), NO, NO, NO, NO], value)
        self.stays("back", ("get", 4, 0, "h", END), [obj(2), NO, NO, NO, NO])
        for value in VALUES[:-1]:
            self.stays("back", ("get", 4, 0, "f", END), [value, NO, NO, NO, NO])

    def test_set(self):
        self.changes(("set", 0, "f", 1, END), [obj(0), NONE, NO, NO, NO],
                     [(None, (("f", NONE), ("g", YES)))] + OBJECTS[1:])
        self.changes(("set", 0, "f", 1, END), [obj(2), YES, NO, NO, NO], OBJECTS[:2] + [(1, (("f", YES),))] + OBJECTS[3:])
        for value in VALUES[:-1]:
            self.stays("back", ("set", 0, "f", 1, END), [value, NO, NO, NO, NO])

    def test_drop(self):
        self.changes(("drop", 0, "f", END), [obj(0), NO, NO, NO, NO], [(None, (("g", YES),))] + OBJECTS[1:])
        self.stays("back", ("drop", 0, "f", END), [obj(2), NO, NO, NO, NO])
        self.stays("back", ("drop", 0, "z", END), [obj(0), NO, NO, NO, NO])
        for value in VALUES[:-1]:
            self.stays("back", ("drop", 0, "f", END), [value, NO, NO, NO, NO])

    def test_new(self):
        for value, parent in ((NONE, None), (obj(0), 0), (obj(1), 1), (obj(3), 3)):
            told = self.told(("new", 4, 0, END), [value, NO, NO, NO, NO])
            held = (OBJECTS + [(parent, ())],) + held_part()[1:]
            self.assertEqual(told, ("row", 2, [value, NO, NO, NO, obj(4)], held))
        for value in VALUES[1:]:
            self.stays("back", ("new", 4, 0, END), [value, NO, NO, NO, NO])

    def test_prim(self):
        self.writes(("prim", 4, "add", (0, 1), END), [num(1), num(2), NO, NO, NO], num(0))
        self.writes(("prim", 4, "add", (0, 1), END), [num(2), ("tok", "col", 1), NO, NO, NO], ("tok", "col", 1))
        self.writes(("prim", 4, "less", (1, 0), END), [num(1), num(2), NO, NO, NO], NO)
        for p, args in (("add", (0,)), ("add", (0, 1, 0)), ("add", ()), ("neg", (0, 1)), ("neg", ()), ("idle", ()),
                        ("idle", (0,)), ("idle", (0, 1)), ("neg", (2,)), ("add", (2, 0)), ("add", (0, 3)), ("less", (0, 3))):
            self.stays("back", ("prim", 4, p, args, END), [num(1), num(2), NO, NONE, NO])


class CallingRows(QuickTest):
    def calls(self, row, registers, name, *arguments, held=None):
        told = self.told(row, registers, held, program=CALLS)
        self.assertEqual(told, ("call", 1, list(registers), tuple(held or held_part()), name, arguments))
        self.assertIsInstance(told[5], tuple)

    def back(self, row, registers, held=None):
        self.stays("back", row, registers, held, program=CALLS)

    def test_call(self):
        registers = [("fun", "none0"), ("fun", "one"), ("fun", "two"), num(1), obj(2)]
        self.calls(("call", 4, 0, (), END, 1), registers, "none0")
        self.calls(("call", 4, 1, (3,), END, 1), registers, "one", num(1))
        self.calls(("call", 4, 2, (4, 3), END, 1), registers, "two", obj(2), num(1))
        self.calls(("call", 2, 2, (2, 2), END, 1), registers, "two", ("fun", "two"), ("fun", "two"))
        for q, args in ((0, (3,)), (1, ()), (1, (3, 3)), (2, (3,)), (2, (3, 3, 3)), (3, ()), (4, (3,))):
            self.back(("call", 4, q, args, END, 1), registers)
        for value in VALUES + (("fun", "far"), ("fun", "add")):
            if value != ("fun", "f"):
                self.back(("call", 4, 0, (), END, 1), [value, NO, NO, NO, NO])

    def test_method(self):
        def held(value):
            return ([(None, (("m", value),)), (0, ()), (None, ())], {}, [])

        for name, args in (("one", ()), ("two", (1,))):
            for k in (0, 1):
                registers = [obj(k), num(2), NO, NO, NO]
                rest = tuple(registers[q] for q in args)
                part = held(("fun", name))
                self.calls(("method", 4, 0, "m", args, END, 1), registers, name, obj(k), *rest, held=part)
                self.back(("method", 4, 0, "m", args + (1,), END, 1), registers, part)
                self.back(("method", 4, 0, "n", args, END, 1), registers, part)
        for name in ("none0", "far"):
            self.back(("method", 4, 0, "m", (), END, 1), [obj(0), NO, NO, NO, NO], held(("fun", name)))
        self.back(("method", 4, 0, "m", (1,), END, 1), [obj(0), NO, NO, NO, NO], held(("fun", "one")))
        for value in (NONE, YES, num(1), obj(0), ("err", "one")):
            self.back(("method", 4, 0, "m", (), END, 1), [obj(0), NO, NO, NO, NO], held(value))
            if value != obj(0):
                self.back(("method", 4, 0, "m", (), END, 1), [value, NO, NO, NO, NO], held(("fun", "one")))
        self.back(("method", 4, 0, "m", (), END, 1), [obj(2), NO, NO, NO, NO], held(("fun", "one")))


class Pieces(QuickTest):
    def ends(self, rows, registers, path, told, k=0, held=None):
        version = self.version(*rows)
        arguments = (CALLS, BOOK, version, list(BINDING), k, list(registers), held or held_part())
        self.assertEqual(quick_run(*arguments), told)
        self.assertEqual(run_path(*arguments), path)
        self.assertEqual(arguments[3:6], (BINDING, k, list(registers)))
        self.assertEqual(arguments[6], held or held_part())
        self.assertTrue(set(path) <= set(piece(version, k)))

    def test_each_kind_of_end(self):
        registers = [YES, num(1), NONE, ("fun", "one"), NONE]
        head = [("point", 1), ("stop", END), ("point", 0), ("move", 4, 1)]
        moved = registers[:4] + [num(1)]
        for last, told in ((("link", 1, 1), ("link", 4)), (("return", 0, 1), ("return", 4)), (("stop", END), ("back", 4)),
                           (("check", ("kind", 4, "col"), END), ("back", 4)), (("test", 4, 1), ("stuck", 4)),
                           (("load", 0, 4, (None, ("f",)), "f"), ("stuck", 4)), (("get", 0, 4, "f", END), ("back", 4))):
            self.ends(head + [last, ("stop", END)], registers, [3, 4], told + (moved, held_part()))
        self.ends(head + [("call", 0, 3, (4,), END, 1)], registers, [3, 4],
                  ("call", 4, moved, held_part(), "one", (num(1),)))
        self.ends(head, registers, [1], ("back", 1, registers, held_part()), 1)

    def test_ways(self):
        rows = [("point", 0), ("test", 0, 5), ("show", 1), ("put", "h", 1), ("jump", 7), ("show", 2), ("jump", 8),
                ("link", 1, 1), ("return", 0, 2), ("point", 1), ("stop", END)]
        objects = list(OBJECTS)
        for bit, path, word, held in (
            (YES, [1, 2, 3, 4, 7], "link", (objects, {"g": num(2), "h": num(1)}, [NO, num(1)])),
            (NO, [1, 5, 6, 8], "return", (objects, {"g": num(2)}, [NO, NONE])),
        ):
            registers = [bit, num(1), NONE, NONE, NONE]
            self.ends(rows, registers, path, (word, path[-1], registers, held))
        self.ends(rows, [NONE] * 5, [1], ("stuck", 1, [NONE] * 5, held_part()))

    def test_changes_ahead_of_going_back_stay(self):
        rows = [("point", 0), ("show", 1), ("new", 4, 2, END), ("set", 4, "f", 1, END), ("drop", 4, "g", END),
                ("link", 1, 0), ("point", 1), ("stop", END)]
        registers = [YES, num(1), NONE, NONE, NONE]
        held = (OBJECTS + [(None, (("f", num(1)),))], {"g": num(2)}, [NO, num(1)])
        self.ends(rows, registers, [1, 2, 3, 4], ("back", 4, registers[:4] + [obj(4)], held))

    def test_jumps_back_and_the_row_of_the_point(self):
        rows = [("jump", 5), ("point", 1), ("stop", END), ("link", 1, 1), ("point", 0), ("jump", 6), ("jump", 3)]
        self.ends(rows, [NONE] * 5, [5, 6, 3], ("link", 3, [NONE] * 5, held_part()))

    def test_numbers_that_are_none(self):
        version = self.version(("point", 0), ("stop", END), ("point", 1), ("stop", END))
        for number in NO_NUMBERS + (4,):
            for call in (quick_step, quick_run, run_path):
                with self.assertRaises(UnknownName) as caught:
                    call(CALLS, BOOK, version, BINDING, number, [NONE] * 5, held_part())
                self.assertIs(caught.exception.name, number)
        for call in (quick_run, run_path):
            with self.assertRaises(UnknownName):
                call(CALLS, BOOK, version, BINDING, 2, [NONE] * 5, held_part())
        self.assertEqual(quick_step(CALLS, BOOK, version, BINDING, 3, [NONE] * 5, held_part())[0], "back")

    def test_the_sample(self):
        program, version = PROGRAM, sample()
        book = ground_book()
        objects = [(None, (("f", num(1)),)), (0, ())]
        registers = [obj(1), ("fun", "f")] + [NONE] * 8
        arguments = (program, book, version, [0, 1], 0, registers, (objects, {}, []))
        self.assertEqual(run_path(*arguments), [1, 2, 3, 4])
        after = registers[:2] + [num(1)] + registers[3:]
        self.assertEqual(quick_run(*arguments), ("call", 4, after, (objects, {}, [num(1)]), "f", (obj(1),)))


class AgainstPlainRuns(QuickTest):
    """Each piece of a slow version does what the plain row does."""

    def follow(self, program):
        versions = {function: slow_version(program, function) for function in program.names()}
        state = start(program, BOOK, "main", [])
        words = {}
        for _ in range(150):
            if state.end() is not None:
                break
            function, row, _ = state.frames()[-1]
            version = versions[function]
            arguments = (program, BOOK, version, [], row, entered(state, version, [], row), held_of(state))
            told = quick_run(*arguments)
            self.assertEqual(run_path(*arguments)[-1], told[1])
            words[told[0]] = words.get(told[0], 0) + 1
            plain, _ = run(state, steps_told(version, told[1]))
            self.compare(version, told, plain)
            state = step(state)
        return words

    def compare(self, version, told, plain):
        """The state behind as many plain steps as the last row tells."""
        function, row, places = plain.frames()[-1]
        self.assertEqual(told[3], held_of(plain))
        last = version.row(told[1])
        if told[0] == "link":
            expected = version.point(last[2])
            self.assertEqual(row, expected[0])
            self.assertEqual([told[2][place[1]] for _, place in expected[2]], [places[r] for r, _ in expected[2]])
        elif told[0] == "return":
            self.assertEqual(step(plain).frames()[:-1], plain.frames()[:-2])
            self.assertEqual(places[last[2]], told[2][last[2]])
        elif told[0] == "call":
            frame = step(plain).frames()[-1]
            self.assertEqual((frame[0], frame[1], frame[2][:len(told[5])]), (told[4], 0, told[5]))
        else:
            self.assertEqual(told[0], "back")
            # Where the piece goes back at once, the plain row throws.
            after = step(plain)
            self.assertTrue(after.end() is not None or after.frames()[-1][1] != row)

    def test_drawn_programs(self):
        counts = {}
        for seed in range(40):
            for word, many in self.follow(Program(ground(), Maker(seed).lively_functions())).items():
                counts[word] = counts.get(word, 0) + many
        self.assertGreater(min(counts["link"], counts["back"]), 50)

    def test_calls_and_methods(self):
        counts = self.follow(program_of(
            "fun main() {let o = new(none); o.m = &sum; o.n = &far; let k = #num:0; while less(k, #num:2) {"
            "show o.m(k); try {show call &far(o, k);} catch e {show e;} try {o.n(k, k);} catch e {show e;}"
            "try {call o();} catch e {show e;} let k = add(k, #num:1);} return call &sum(o, k);}"
            "fun sum(o, x) {if x == #num:0 {return x;} return add(x, call &sum(o, add(x, #num:2)));}"
            "fun far(o, x) {throw o.nowhere;}"
        ))
        self.assertEqual(set(counts), {"link", "return", "call", "back"})
        self.assertGreater(min(counts.values()), 5, counts)


if __name__ == "__main__":
    unittest.main()
