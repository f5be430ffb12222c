"""The printed text (S1.5, S1.6); shapeguess/printer.py, read back by shapeguess/reader.py."""

import re
import unittest

from samples import Maker, NONE, NO, YES, ground, name, num, value
from shapeguess.printer import print_program
from shapeguess.reader import read_program
from shapeguess.signatures import Signature
from shapeguess.trees import Program

A = name("a")
B = name("b")
SAME = ("same", A, B)

# Trees and their texts, for a function with the parameters a, b and let.
EXPRESSIONS = (
    (A, "a"),
    (name("let"), "'let"),
    (("global", "g"), "$g"),
    (("global", "let"), "$let"),
    (value(NONE), "none"),
    (value(YES), "yes"),
    (value(NO), "no"),
    (value(num(0)), "#num:0"),
    (value(num(10 ** 39)), "#num:1" + "0" * 39),
    (value(("err", "e")), "!e"),
    (value(("err", "none")), "!none"),
    (value(("fun", "main")), "&main"),
    (("get", A, "f"), "a.f"),
    (("get", A, "let"), "a.let"),
    (("get", ("get", A, "f"), "g"), "a.f.g"),
    (("new", A), "new(a)"),
    (("new", ("new", SAME)), "new(new(a == b))"),
    (("prim", "neg", (A,)), "neg(a)"),
    (("prim", "add", (A, B)), "add(a, b)"),
    (("prim", "add", (SAME, ("prim", "neg", (A,)))), "add(a == b, neg(a))"),
    (SAME, "a == b"),
    (("same", SAME, A), "(a == b) == a"),
    (("same", A, SAME), "a == (a == b)"),
    (("same", SAME, SAME), "(a == b) == (a == b)"),
    (("same", ("new", A), ("call", A, ())), "new(a) == call a()"),
    (("call", A, ()), "call a()"),
    (("call", A, (A, B, SAME)), "call a(a, b, a == b)"),
    (("call", name("let"), (name("let"),)), "call 'let('let)"),
    (("call", ("global", "g"), (A,)), "call $g(a)"),
    (("call", value(("fun", "main")), (A,)), "call &main(a)"),
    (("call", value(NONE), ()), "call none()"),
    (("call", value(num(1)), ()), "call #num:1()"),
    (("call", ("get", A, "f"), (B,)), "call (a.f)(b)"),
    (("call", ("new", A), ()), "call (new(a))()"),
    (("call", ("prim", "neg", (A,)), ()), "call (neg(a))()"),
    (("call", SAME, ()), "call (a == b)()"),
    (("call", ("call", A, ()), ()), "call (call a())()"),
    (("call", ("method", A, "m", ()), ()), "call (a.m())()"),
    (("method", A, "m", ()), "a.m()"),
    (("method", A, "if", (A, SAME)), "a.if(a, a == b)"),
    (("method", SAME, "m", ()), "(a == b).m()"),
    (("get", SAME, "f"), "(a == b).f"),
    (("get", ("new", A), "f"), "new(a).f"),
    (("get", ("prim", "neg", (A,)), "f"), "neg(a).f"),
    (("get", ("call", A, (B,)), "f"), "call a(b).f"),
    (("method", ("call", ("get", A, "f"), (B,)), "m", (A,)), "call (a.f)(b).m(a)"),
    (("get", ("method", A, "m", ()), "f"), "a.m().f"),
    (("get", value(num(1)), "f"), "#num:1.f"),
    (("get", value(NONE), "none"), "none.none"),
)
STATEMENTS = (
    (("let", "b", A), "let b = a;"),
    (("let", "let", SAME), "let 'let = a == b;"),
    (("put", "g", SAME), "$g = a == b;"),
    (("put", "let", A), "$let = a;"),
    (("set", A, "f", B), "a.f = b;"),
    (("set", ("get", A, "f"), "if", SAME), "a.f.if = a == b;"),
    (("set", SAME, "f", B), "(a == b).f = b;"),
    (("set", ("call", A, ()), "f", B), "call a().f = b;"),
    (("set", ("global", "g"), "f", B), "$g.f = b;"),
    (("set", name("let"), "f", B), "'let.f = b;"),
    (("drop", A, "f"), "drop a.f;"),
    (("drop", SAME, "f"), "drop (a == b).f;"),
    (("drop", ("method", A, "m", ()), "drop"), "drop a.m().drop;"),
    (("return", A), "return a;"),
    (("throw", SAME), "throw a == b;"),
    (("show", value(NONE)), "show none;"),
    (("do", A), "a;"),
    (("do", ("global", "g")), "$g;"),
    (("do", ("get", A, "f")), "a.f;"),
    (("do", SAME), "a == b;"),
    (("do", ("same", ("get", A, "f"), B)), "a.f == b;"),
    (("do", ("same", SAME, B)), "(a == b) == b;"),
    (("do", value(NO)), "no;"),
    (("if", A, (), ()), "if a {\n}"),
    (("if", SAME, (("do", A),), ()), "if a == b {\n  a;\n}"),
    (("if", A, (("do", A),), (("do", B),)), "if a {\n  a;\n} else {\n  b;\n}"),
    (("if", A, (), (("do", B),)), "if a {\n} else {\n  b;\n}"),
    (("while", A, ()), "while a {\n}"),
    (("while", SAME, (("do", A), ("do", B))), "while a == b {\n  a;\n  b;\n}"),
    (("try", (), "e", ()), "try {\n} catch e {\n}"),
    (("try", (("do", A),), "catch", (("do", B),)), "try {\n  a;\n} catch 'catch {\n  b;\n}"),
    (("if", A, (("while", A, (("try", (("do", A),), "e", ()),)),), ()),
     "if a {\n  while a {\n    try {\n      a;\n    } catch e {\n    }\n  }\n}"),
)


def program(*statements):
    return Program(ground(), [("main", ("a", "b", "let"), statements)])


def indented(text):
    return "".join("  " + line + "\n" for line in text.split("\n"))


class Texts(unittest.TestCase):
    def both_ways(self, made, text):
        self.assertEqual(print_program(made), text)
        self.assertEqual(read_program(made.signature(), text), made)

    def test_expressions(self):
        for tree, text in EXPRESSIONS:
            self.both_ways(program(("show", tree)), "fun main(a, b, 'let) {\n  show " + text + ";\n}")

    def test_statements(self):
        for tree, text in STATEMENTS:
            self.both_ways(program(tree), "fun main(a, b, 'let) {\n" + indented(text) + "}")

    def test_all_statements_together(self):
        text = "".join(indented(text) for _, text in STATEMENTS)
        self.both_ways(program(*[tree for tree, _ in STATEMENTS]), "fun main(a, b, 'let) {\n" + text + "}")

    def test_functions(self):
        rows = (
            ([], ""),
            ([("f", (), ())], "fun f() {\n}"),
            ([("fun", ("none",), ())], "fun fun('none) {\n}"),
            ([("f", ("x", "y"), ()), ("g", (), ())], "fun f(x, y) {\n}\nfun g() {\n}"),
        )
        for functions, text in rows:
            self.both_ways(Program(ground(), functions), text)

    def test_key_words_as_names(self):
        words = ("call", "catch", "drop", "else", "fun", "if", "let", "new", "no", "none", "return", "show", "throw",
                 "try", "while", "yes")
        for word in words:
            signature = Signature([], {word: []})
            body = (
                ("let", word, ("prim", word, (name(word),))),
                ("put", word, ("global", word)),
                ("set", name(word), word, ("get", name(word), word)),
                ("try", (), word, (("do", ("method", name(word), word, (value(("err", word)),))),)),
                ("do", ("call", name(word), (value(("fun", word)),))),
            )
            text = (
                "fun W('W) {\n  let 'W = 'W('W);\n  $W = $W;\n  'W.W = 'W.W;\n  try {\n  } catch 'W {\n"
                "    'W.W(!W);\n  }\n  call 'W(&W);\n}"
            )
            self.both_ways(Program(signature, [(word, (word,), body)]), text.replace("W", word))

    def test_key_words_as_kinds(self):
        made = Program(Signature(["let"], {}), [("f", (), (("do", value(("tok", "let", 7))),))])
        self.both_ways(made, "fun f() {\n  #let:7;\n}")

    def test_words_that_begin_like_key_words(self):
        for word in ("lets", "nones", "if0", "newer", "cal"):
            made = Program(ground(), [("f", (word,), (("do", name(word)),))])
            self.both_ways(made, f"fun f({word}) {{\n  {word};\n}}")

    def test_examples_of_the_interface(self):
        text = (
            "fun main(a, 'let) {\n  let b = add(a, #num:1);\n  if b == 'let {\n    $seen = (b == a) == yes;\n"
            "  } else {\n    b.f = call (a.f)(b).g;\n  }\n}"
        )
        small = Signature(["num"], {"add": [("addnum", ("num", "num"), "num")]})
        made = read_program(small, text)
        self.assertEqual(print_program(made), text)
        self.assertEqual(
            made.function("main")[2][1][3],
            (("set", B, "f", ("get", ("call", ("get", A, "f"), (B,)), "g")),),
        )
        made = read_program(small, "fun f(){((none));if yes{}else{}}")
        self.assertEqual(print_program(made), "fun f() {\n  none;\n  if yes {\n  }\n}")


class RandomPrograms(unittest.TestCase):
    def test_read_back(self):
        for seed in range(300):
            made = Program(ground(), Maker(seed).functions())
            self.assertEqual(read_program(ground(), print_program(made)), made)

    def test_layout(self):
        for seed in range(60):
            depth = 0
            for line in print_program(Program(ground(), Maker(seed).functions())).split("\n"):
                self.assertNotRegex(line.strip(), r"  | $|\( | \)| ;| ,|,\S")
                depth -= line.strip().startswith("}")
                self.assertEqual(len(line) - len(line.lstrip(" ")), 2 * depth)
                depth += line.endswith("{")
                self.assertRegex(line, r"[;{}]$")

    def test_only_necessary_brackets(self):
        for seed in range(40):
            made = Program(ground(), Maker(seed).functions())
            text = print_program(made)
            for left, right in bracket_pairs(text):
                other = text[:left] + " " + text[left + 1:right] + " " + text[right + 1:]
                self.assertFalse(reads_as(other, made), (text, left))


def bracket_pairs(text):
    opened = []
    for match in re.finditer(r"[()]", text):
        if match.group() == "(":
            opened.append(match.start())
        else:
            yield opened.pop(), match.start()


def reads_as(text, made):
    try:
        return read_program(ground(), text) == made
    except (ValueError, LookupError):
        return False


if __name__ == "__main__":
    unittest.main()
