"""Plain rows, registers and stretches, worked out by hand (S2.4 to S2.6); shapeguess/compiling.py."""

import unittest

from samples import LOCALS, NONE, NO, STRANGE, YES, Maker, ground, num, program_of
from shapeguess.compiling import Code, compiled
from shapeguess.errors import UnknownName
from shapeguess.live import live_at
from shapeguess.trees import Program, locals_of


def code_of(text, parameters="a, b"):
    return compiled(program_of("fun f(" + parameters + ") {" + text + "}"))["f"]


class CompilingTest(unittest.TestCase):
    def rows(self, text, rows, first=2, registers=None, stretches=(), parameters="a, b"):
        """The rows of a function, without the const and the return at its end, whose register is first."""
        code = code_of(text, parameters)
        self.assertEqual(code.rows(), list(rows) + [("const", first, NONE), ("return", first)], text)
        self.assertEqual(code.stretches(), list(stretches), text)
        self.assertEqual(code.registers(), first + 1 if registers is None else registers, text)


class Expressions(CompilingTest):
    def test_with_a_local_as_the_target(self):
        rows = (
            ("b", [("move", 2, 1)]),
            ("$g", [("global", 2, "g")]),
            ("none", [("const", 2, NONE)]),
            ("yes", [("const", 2, YES)]),
            ("#num:7", [("const", 2, num(7))]),
            ("!e", [("const", 2, ("err", "e"))]),
            ("&f", [("const", 2, ("fun", "f"))]),
            ("a.g", [("get", 2, 0, "g")]),
            ("new(a)", [("new", 2, 0)]),
            ("neg(a)", [("prim", 2, "neg", (0,))]),
            ("add(b, a)", [("prim", 2, "add", (1, 0))]),
            ("a == b", [("same", 2, 0, 1)]),
            ("call a()", [("call", 2, 0, ())]),
            ("call a(b, a, b)", [("call", 2, 0, (1, 0, 1))]),
            ("a.m()", [("method", 2, 0, "m", ())]),
            ("a.m(b, a)", [("method", 2, 0, "m", (1, 0))]),
        )
        for text, made in rows:
            self.rows("let c = " + text + ";", made, first=3)

    def test_a_local_into_itself(self):
        self.rows("let a = a;", [])
        self.rows("let a = b;", [("move", 0, 1)])
        self.rows("let c = a; let c = c;", [("move", 2, 0)], first=3)

    def test_the_target_among_the_operands(self):
        self.rows("let a = add(a, a);", [("prim", 0, "add", (0, 0))])
        self.rows("let a = a.f;", [("get", 0, 0, "f")])
        self.rows("let a = a.f.g;", [("get", 2, 0, "f"), ("get", 0, 2, "g")])

    def test_temporaries_inside_one_another(self):
        self.rows("let a = b.f.g.h;", [("get", 2, 1, "f"), ("get", 2, 2, "g"), ("get", 0, 2, "h")])
        self.rows("let a = new(new(new(none)));", [("const", 2, NONE), ("new", 2, 2), ("new", 2, 2), ("new", 0, 2)])
        self.rows(
            "let a = add(neg(a), neg(b));",
            [("prim", 2, "neg", (0,)), ("prim", 3, "neg", (1,)), ("prim", 0, "add", (2, 3))], registers=4,
        )
        self.rows(
            "let a = add(add(yes, no), add(none, add(a, yes)));",
            [
                ("const", 2, YES), ("const", 3, NO), ("prim", 2, "add", (2, 3)),
                ("const", 3, NONE), ("const", 4, YES), ("prim", 4, "add", (0, 4)), ("prim", 3, "add", (3, 4)),
                ("prim", 0, "add", (2, 3)),
            ],
            registers=5,
        )

    def test_names_among_temporaries(self):
        self.rows(
            "let a = call (a.f.m(b))(yes, b, no);",
            [
                ("get", 2, 0, "f"), ("method", 2, 2, "m", (1,)), ("const", 3, YES), ("const", 4, NO),
                ("call", 0, 2, (3, 1, 4)),
            ],
            registers=5,
        )
        self.rows(
            "let a = a.m(none, b, a == yes);",
            [("const", 2, NONE), ("const", 3, YES), ("same", 3, 0, 3), ("method", 0, 0, "m", (2, 1, 3))], registers=4,
        )
        self.rows(
            "let a = (a == none) == (no == b);",
            [
                ("const", 2, NONE), ("same", 2, 0, 2), ("const", 3, NO), ("same", 3, 3, 1), ("same", 0, 2, 3),
            ],
            registers=4,
        )

    def test_object_before_arguments(self):
        self.rows(
            "let a = b.f.m(b.g);", [("get", 2, 1, "f"), ("get", 3, 1, "g"), ("method", 0, 2, "m", (3,))], registers=4,
        )
        self.rows("let a = call $g($h);", [("global", 2, "g"), ("global", 3, "h"), ("call", 0, 2, (3,))], registers=4)


class Statements(CompilingTest):
    def test_empty_function(self):
        self.rows("", [])
        self.rows("", [], parameters="", first=0)

    def test_put(self):
        self.rows("$g = a;", [("put", "g", 0)])
        self.rows("$g = $h;", [("global", 2, "h"), ("put", "g", 2)])

    def test_set(self):
        self.rows("a.f = b;", [("set", 0, "f", 1)])
        self.rows("a.f = none;", [("const", 2, NONE), ("set", 0, "f", 2)])
        self.rows("a.f.g = b;", [("get", 2, 0, "f"), ("set", 2, "g", 1)])
        self.rows(
            "a.f.g = b.h;", [("get", 2, 0, "f"), ("get", 3, 1, "h"), ("set", 2, "g", 3)], registers=4,
        )

    def test_drop(self):
        self.rows("drop a.f;", [("drop", 0, "f")])
        self.rows("drop a.f.g;", [("get", 2, 0, "f"), ("drop", 2, "g")])

    def test_show_return_throw(self):
        for word in ("show", "return", "throw"):
            self.rows(word + " b;", [(word, 1)])
            self.rows(word + " !e;", [("const", 2, ("err", "e")), (word, 2)])

    def test_do(self):
        self.rows("a;", [])
        self.rows("none;", [("const", 2, NONE)])
        self.rows("a.f;", [("get", 2, 0, "f")])
        self.rows("call a(b);", [("call", 2, 0, (1,))])

    def test_every_statement_starts_with_the_same_temporary(self):
        self.rows(
            "show add(yes, no); show none; $g = add(no, no);",
            [
                ("const", 2, YES), ("const", 3, NO), ("prim", 2, "add", (2, 3)), ("show", 2),
                ("const", 2, NONE), ("show", 2),
                ("const", 2, NO), ("const", 3, NO), ("prim", 2, "add", (2, 3)), ("put", "g", 2),
            ],
            registers=4,
        )
        self.rows(
            "if a == none {show no;}",
            [("const", 2, NONE), ("same", 2, 0, 2), ("test", 2, 5), ("const", 2, NO), ("show", 2)],
        )

    def test_locals_count_as_registers_even_if_no_row_names_them(self):
        self.rows("try {} catch c {}", [("jump", 1)], first=3)
        self.rows("a;", [], first=5, parameters="a, b, c, d, e")

    def test_last_rows_are_there_even_behind_a_return(self):
        self.rows("return a; throw b;", [("return", 0), ("throw", 1)])


class Branches(CompilingTest):
    def test_if_without_no(self):
        self.rows("if a {show b;}", [("test", 0, 2), ("show", 1)])
        self.rows("if a.f {show b;}", [("get", 2, 0, "f"), ("test", 2, 3), ("show", 1)])
        self.rows("if a {}", [("test", 0, 1)])
        self.rows("if a {b;}", [("test", 0, 1)])

    def test_if_with_no(self):
        self.rows("if a {show a;} else {show b;}", [("test", 0, 3), ("show", 0), ("jump", 4), ("show", 1)])
        self.rows("if yes {} else {show b;}", [("const", 2, YES), ("test", 2, 3), ("jump", 4), ("show", 1)])

    def test_no_with_statements_but_without_rows(self):
        self.rows("if a {show a;} else {b;}", [("test", 0, 3), ("show", 0), ("jump", 3)])
        self.rows("if a {} else {a;}", [("test", 0, 2), ("jump", 2)])

    def test_ifs_in_one_another(self):
        self.rows(
            "if a {if b {show a;} else {show b;}} else {if b {show a;}}",
            [
                ("test", 0, 6), ("test", 1, 4), ("show", 0), ("jump", 5), ("show", 1), ("jump", 8),
                ("test", 1, 8), ("show", 0),
            ],
        )

    def test_while(self):
        self.rows("while a {show b;}", [("test", 0, 3), ("show", 1), ("jump", 0)])
        self.rows("show a; while a {show b;}", [("show", 0), ("test", 0, 4), ("show", 1), ("jump", 1)])
        self.rows("while a.f {show b;}", [("get", 2, 0, "f"), ("test", 2, 4), ("show", 1), ("jump", 0)])
        self.rows(
            "show b; while neg(yes) {}",
            [("show", 1), ("const", 2, YES), ("prim", 2, "neg", (2,)), ("test", 2, 5), ("jump", 1)],
        )
        self.rows("while a {}", [("test", 0, 2), ("jump", 0)])

    def test_whiles_in_one_another(self):
        self.rows(
            "while a {while b == a {let b = a;} show a;}",
            [
                ("test", 0, 7), ("same", 2, 1, 0), ("test", 2, 5), ("move", 1, 0), ("jump", 1), ("show", 0),
                ("jump", 0),
            ],
        )


class Tries(CompilingTest):
    def test_try(self):
        self.rows(
            "try {show a; throw b;} catch c {show c;}",
            [("show", 0), ("throw", 1), ("jump", 4), ("show", 2)], first=3, stretches=[(0, 2, 3, 2)],
        )

    def test_handler_into_a_parameter(self):
        self.rows("show b; try {throw a;} catch a {}", [("show", 1), ("throw", 0), ("jump", 3)],
                  stretches=[(1, 2, 3, 0)])

    def test_without_rows_in_the_body(self):
        self.rows("try {} catch a {show a;}", [("jump", 2), ("show", 0)])
        self.rows("try {a; let b = b;} catch a {show a;}", [("jump", 2), ("show", 0)])
        self.rows("try {try {} catch b {}} catch a {}", [("jump", 1), ("jump", 2)], stretches=[(0, 1, 2, 0)])

    def test_without_rows_in_the_handler(self):
        self.rows("try {show a;} catch a {}", [("show", 0), ("jump", 2)], stretches=[(0, 1, 2, 0)])

    def test_tries_in_one_another(self):
        self.rows(
            "try {show a; try {show b;} catch b {show b;} show a;} catch a {try {throw a;} catch b {}}",
            [
                ("show", 0), ("show", 1), ("jump", 4), ("show", 1), ("show", 0), ("jump", 8), ("throw", 0),
                ("jump", 8),
            ],
            stretches=[(1, 2, 3, 1), (6, 7, 8, 1), (0, 5, 6, 0)],
        )

    def test_tries_behind_one_another(self):
        self.rows(
            "try {show a;} catch a {} try {show b;} catch b {}",
            [("show", 0), ("jump", 2), ("show", 1), ("jump", 4)], stretches=[(0, 1, 2, 0), (2, 3, 4, 1)],
        )

    def test_try_within_while(self):
        self.rows(
            "while a {try {show b;} catch e {return e;}}",
            [("test", 0, 5), ("show", 1), ("jump", 4), ("return", 2), ("jump", 0)], first=3,
            stretches=[(1, 2, 3, 2)],
        )


class Registers(CompilingTest):
    def test_order_of_the_locals(self):
        code = code_of(
            "if a {let d = b;} else {let c = b;} try {let h = a; let d = a;} catch g {let e = a;} let i = a; let h = b;"
        )
        self.assertEqual(
            [row[1] for row in code.rows() if row[0] == "move"], [2, 3, 4, 2, 6, 7, 4]
        )
        self.assertEqual(code.stretches(), [(4, 6, 7, 5)])
        self.assertEqual(code.registers(), 9)
        self.assertEqual(code.parameters(), 2)

    def test_registers_are_the_locals_of_the_program(self):
        for seed in range(30):
            program = Program(ground(), Maker(seed).functions())
            for word, code in compiled(program).items():
                self.assertEqual(len(locals_of(program, word)), code.rows()[-1][1])
                self.assertEqual(code.rows()[-2], ("const", len(LOCALS), NONE))
                self.assertGreaterEqual(code.registers(), len(LOCALS) + 1)
                self.assertEqual(code.parameters(), len(program.function(word)[1]))

    def test_other_names_give_the_same_rows(self):
        one = "let c = a.f; try {show c; let d = b;} catch e {$g = e;} while d {let b = a;} return c;"
        other = "let 'no = 'if.f; try {show 'no; let x = z;} catch a {$g = a;} while x {let z = 'if;} return 'no;"
        self.assertEqual(code_of(one), code_of(other, "'if, z"))

    def test_great_numbers_of_temporaries(self):
        code = code_of("call a(" + ", ".join(["none"] * 50) + ");")
        self.assertEqual(code.registers(), 52)
        self.assertEqual(code.row(50), ("call", 2, 0, tuple(range(2, 52))))


class Codes(unittest.TestCase):
    ROWS = [("jump", 1), ("return", 0)]

    def test_parts(self):
        code = Code(1, 4, self.ROWS, [(0, 1, 1, 3)])
        self.assertEqual(
            (code.parameters(), code.registers(), code.rows(), code.stretches()), (1, 4, self.ROWS, [(0, 1, 1, 3)])
        )
        self.assertIsInstance(code.rows(), list)
        self.assertIsInstance(code.stretches(), list)
        self.assertEqual([code.row(0), code.row(1)], self.ROWS)

    def test_unknown_rows(self):
        code = Code(1, 1, self.ROWS, [])
        for thing in STRANGE + (2, -2, "jump", ("jump", 1), code):
            with self.assertRaises(UnknownName) as caught:
                code.row(thing)
            self.assertIs(caught.exception.name, thing)

    def test_nothing_is_kept_and_what_is_told_is_new(self):
        rows = list(self.ROWS)
        stretches = [(0, 1, 1, 0)]
        code = Code(1, 1, rows, stretches)
        rows.append(("return", 0))
        stretches.clear()
        code.rows().clear()
        code.stretches().clear()
        self.assertEqual((code.rows(), code.stretches()), (self.ROWS, [(0, 1, 1, 0)]))
        self.assertEqual(Code(1, 1, tuple(self.ROWS), ((0, 1, 1, 0),)), code)

    def test_equality(self):
        code = Code(1, 2, self.ROWS, [(0, 1, 1, 0)])
        self.assertTrue(code == Code(1, 2, self.ROWS, [(0, 1, 1, 0)]))
        self.assertFalse(code != Code(1, 2, self.ROWS, [(0, 1, 1, 0)]))
        others = (
            Code(0, 2, self.ROWS, [(0, 1, 1, 0)]), Code(1, 3, self.ROWS, [(0, 1, 1, 0)]),
            Code(1, 2, [("jump", 0), ("return", 0)], [(0, 1, 1, 0)]), Code(1, 2, self.ROWS, [(0, 1, 1, 1)]),
            Code(1, 2, self.ROWS, []), Code(1, 2, self.ROWS + [("return", 0)], [(0, 1, 1, 0)]),
        )
        for other in others:
            self.assertTrue(code != other)
            self.assertFalse(code == other)
        for thing in STRANGE + (self.ROWS, program_of("")):
            self.assertIs(code == thing, False)
            self.assertIs(thing == code, False)

    def test_compiled(self):
        program = program_of("fun z() {} fun a(x) {return x;} fun m() {}")
        codes = compiled(program)
        self.assertIsInstance(codes, dict)
        self.assertEqual(list(codes), ["z", "a", "m"])
        self.assertEqual(codes["z"], Code(0, 1, [("const", 0, NONE), ("return", 0)], []))
        self.assertEqual(codes["a"], Code(1, 2, [("return", 0), ("const", 1, NONE), ("return", 1)], []))
        codes.clear()
        self.assertEqual(list(compiled(program)), ["z", "a", "m"])
        self.assertEqual(compiled(program_of("")), {})

    def test_registers_of_callers_need_not_be_the_least(self):
        self.assertEqual(live_at(Code(2, 9, [("show", 1), ("return", 0)], []), 0), [0, 1])


if __name__ == "__main__":
    unittest.main()
