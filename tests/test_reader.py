"""Reading texts in all layouts, and the places at which texts are refused (S1.4, S1.5, S1.7); shapeguess/reader.py."""

import re
import unittest

from grammar import refused_at
from samples import WORD_OF_12, WORD_OF_13, Maker, ground, num, value
from shapeguess.errors import BadText, NoFunction, TwiceTold, UnknownName
from shapeguess.printer import print_program
from shapeguess.reader import read_program
from shapeguess.trees import Program

HEAD = "fun f(a, b) {"


def read(text):
    return read_program(ground(), text)


def body_of(text):
    """The body of a function with the parameters a and b."""
    return read(HEAD + text + "}").function("f")[2]


class ReaderTest(unittest.TestCase):
    def refused(self, text, place):
        with self.assertRaises(BadText) as caught:
            read(text)
        self.assertEqual(caught.exception.place, place, text)
        # The second reading of the document agrees.
        self.assertEqual(refused_at(text), place, text)

    def refused_in_body(self, text, place):
        self.refused(HEAD + text, len(HEAD) + place)


class Layouts(ReaderTest):
    def test_few_and_many_blanks(self):
        few = "fun f(a,'let){let b=neg(a);if b=='let{$seen=(b==a)==yes;}else{b.f=call(a.f)(b).g;drop a.f;}while no{}}"
        lexemes = re.findall(r"#[a-z0-9]+:[0-9]+|['$&!]?[a-z0-9]+|==|.", few.replace(" ", "\0"))
        lexemes = [lexeme for lexeme in lexemes if lexeme != "\0"]
        made = read(few)
        self.assertEqual(print_program(made).replace(" ", "").replace("\n", ""), few.replace(" ", ""))
        for between in (" ", "\n", "  ", "\n\n \n", " " * 9):
            self.assertEqual(read(between + between.join(lexemes) + between), made)

    def test_one_line_and_no_blanks_where_none_is_necessary(self):
        for seed in range(40):
            made = Program(ground(), Maker(seed).functions())
            text = print_program(made)
            self.assertEqual(read(text.replace("\n", "")), made)
            tight = re.sub(r"\s*([.(),;{}]|==|=)\s*", r"\1", text)
            self.assertEqual(read(tight), made)
            wide = re.sub(r"([.(),;{}]|==|(?<!=)=(?!=))", " \n\\1\n ", text)
            self.assertEqual(read(wide), made)

    def test_lexemes_side_by_side(self):
        self.assertEqual(body_of("show#num:1;return!e;throw&f;show$g;let'if=a;"), (
            ("show", value(num(1))), ("return", value(("err", "e"))), ("throw", value(("fun", "f"))),
            ("show", ("global", "g")), ("let", "if", ("name", "a")),
        ))
        self.assertEqual(body_of("a==b;$g=a;"), (
            ("do", ("same", ("name", "a"), ("name", "b"))), ("put", "g", ("name", "a")),
        ))

    def test_empty_texts(self):
        for text in ("", " ", "\n", " \n \n"):
            self.assertEqual(read(text).functions(), [])

    def test_more_brackets(self):
        a = ("name", "a")
        rows = (
            ("(a);", ("do", a)),
            ("((((a))));", ("do", a)),
            ("(a.f);", ("do", ("get", a, "f"))),
            ("(a).f;", ("do", ("get", a, "f"))),
            ("((a).f).g = (a);", ("set", ("get", a, "f"), "g", a)),
            ("(a).f = (a == a);", ("set", a, "f", ("same", a, a))),
            ("drop (a).f;", ("drop", a, "f")),
            ("drop ((a.f)).g;", ("drop", ("get", a, "f"), "g")),
            ("(a) == (a);", ("do", ("same", a, a))),
            ("(a == a);", ("do", ("same", a, a))),
            ("$g = ($g);", ("put", "g", ("global", "g"))),
            ("($g).f = a;", ("set", ("global", "g"), "f", a)),
            ("call (a)((a));", ("do", ("call", a, (a,)))),
            ("call ((a))();", ("do", ("call", a, ()))),
            ("(call a());", ("do", ("call", a, ()))),
            ("(a).m((a), (a));", ("do", ("method", a, "m", (a, a)))),
            ("neg((a));", ("do", ("prim", "neg", (a,)))),
            ("new((a));", ("do", ("new", a))),
            ("if (a) {}", ("if", a, (), ())),
            ("while (a == a) {}", ("while", ("same", a, a), ())),
            ("return (none);", ("return", value(("none",)))),
        )
        for text, tree in rows:
            self.assertEqual(body_of(text), (tree,), text)

    def test_else(self):
        a = ("name", "a")
        self.assertEqual(body_of("if a {} else {}"), (("if", a, (), ()),))
        self.assertEqual(body_of("if a {} else {a;}"), (("if", a, (), (("do", a),)),))
        self.assertEqual(body_of("if a {if a {} else {a;}} a;"), (
            ("if", a, (("if", a, (), (("do", a),)),), ()), ("do", a),
        ))

    def test_numbers(self):
        for number in (0, 1, 9, 10, 100, 10 ** 39, 10 ** 40 - 1, 10 ** 60):
            self.assertEqual(body_of(f"#num:{number};"), (("do", value(num(number))),))

    def test_words_of_12_signs(self):
        word = WORD_OF_12
        text = f"fun {word}({word}){{{word};${word};!{word};&{word};{word}.{word};let {word}={word};}}"
        self.assertEqual(read(text).names(), [word])

    def test_long_texts(self):
        self.assertEqual(len(body_of("a;" * 2000)), 2000)
        self.assertEqual(len(body_of("b.f=a;" * 700)), 700)

    def test_deep_texts(self):
        for deep in (30, 60):
            self.assertEqual(body_of("(" * deep + "a" + ")" * deep + ";"), (("do", ("name", "a")),))
            for opened, closed in (("new(", ")"), ("neg(", ")"), ("call (", ")()"), ("(", ").f"), ("call a(", ")"),
                                   ("b.m(", ")"), ("(", ") == b")):
                text = HEAD + opened * deep + "a" + closed * deep + ";}"
                made = read(text)
                self.assertEqual(read(print_program(made)), made)
            for opened, closed in (("if a {", "}"), ("if a {} else {", "}"), ("while a {", "}"),
                                   ("try {", "} catch e {}"), ("try {} catch e {", "}")):
                made = read(HEAD + opened * deep + closed * deep + "}")
                self.assertEqual(read(print_program(made)), made)


class Names(ReaderTest):
    def test_names_are_checked_by_the_rules_of_programs(self):
        rows = (
            ("fun f() {} fun f() {}", TwiceTold, "f"),
            ("fun f('if, 'if) {}", TwiceTold, "if"),
            ("fun f(a) {x;}", UnknownName, "x"),
            ("fun f(a) {sub(a);}", UnknownName, "sub"),
            ("fun f(a) {#dog:1;}", UnknownName, "dog"),
            ("fun f(a) {&g;}", NoFunction, "g"),
        )
        for text, error, name in rows:
            with self.assertRaises(error) as caught:
                read(text)
            self.assertEqual(caught.exception.name, name)
            self.assertIsNone(refused_at(text))

    def test_after_the_whole_text(self):
        for text in ("fun f(a, a) {x; sub(a); &g; a a}", "fun f() {} fun f() {} @"):
            with self.assertRaises(BadText) as caught:
                read(text)
            self.assertEqual(caught.exception.place, len(text) - (2 if text[-1] == "}" else 1))


class Refused(ReaderTest):
    def test_no_lexeme_begins(self):
        for sign in ("@", "A", "1", "0", "+", "-", "\"", "_", "~", "%", "[", ":", "*", "\t", "\r", "\u00e4", "\\", "^"):
            self.refused(sign, 0)
            self.refused(" \n" + sign, 2)
            self.refused_in_body("(" + sign, 1)
            self.refused_in_body("a;" + sign, 2)
            self.refused(HEAD + "} " + sign, len(HEAD) + 2)

    def test_wrong_lexeme_before_no_lexeme(self):
        self.refused_in_body("a a @", 2)
        self.refused_in_body("a @ a", 2)
        self.refused("f @", 0)

    def test_words_of_13_signs(self):
        for before in ("", "'", "$", "!", "&", "a."):
            at = 2 if before == "a." else 0
            self.refused_in_body(before + WORD_OF_13 + ";", at)
        self.refused_in_body("#" + WORD_OF_13 + ":1;", 0)
        self.refused("fun " + WORD_OF_13, 4)
        self.refused_in_body("return" + WORD_OF_13 + ";", 0)

    def test_marks_without_a_word(self):
        for mark in "'$&!#":
            for behind in ("", " a;", "\na;", "1;", "A;", ";", "(", mark + "a"):
                self.refused_in_body(mark + behind, 0)

    def test_tokens_cut_off(self):
        for token in ("#", "#num", "#num:", "#:1", "#num :1", "#num: 1", "# num:1", "#num:a", "#num:-1", "#1:1",
                      "#Num:1", "#num;1", "#num::1"):
            self.refused_in_body(token, 0)
            self.refused_in_body(token + ";", 0)

    def test_leading_zeros(self):
        self.refused("#num:01", 0)
        self.refused_in_body("#num:01;", 6)
        self.refused_in_body("#num:00;", 6)
        self.refused_in_body("#num:10a;", 7)
        self.refused_in_body("#num:1" + WORD_OF_13, 6)
        self.refused_in_body("#num:0.f;", 9)
        self.assertEqual(len(body_of("#num:0.f;")), 1)

    def test_reserved_words_behind_a_number_sign(self):
        for word in ("none", "bit", "err", "fun", "obj"):
            self.refused_in_body(f"#{word}:1;", 0)
        self.assertIsNone(refused_at(HEAD + "#let:1;}"))

    def test_end_too_early(self):
        text = (
            "fun f(a,'if){let b=a.f;$g=neg(b);b.f=add(a,b);drop b.f;if a{}else{a.m(b);}"
            "while a{}try{}catch e{call a();}}"
        )
        # Cut behind each lexeme, the end of the text is the place; blanks at the end count.
        for match in re.finditer(r"#[a-z0-9]+:[0-9]+|['$&!]?[a-z0-9]+|==|[^ ]", text[:-1]):
            cut = text[:match.end()]
            self.refused(cut, len(cut))
            self.refused(cut + " \n ", len(cut) + 3)

    def test_key_words_as_locals_need_the_mark(self):
        for word in ("call", "catch", "drop", "else", "fun", "if", "let", "new", "no", "none", "return", "show",
                     "throw", "try", "while", "yes"):
            self.refused(f"fun f({word}) {{}}", 6)
            self.refused_in_body(f"let {word} = a;", 4)
            self.refused_in_body(f"try {{}} catch {word} {{}}", 13)
            self.assertIsNone(refused_at(f"fun {word}('{word}) {{let '{word} = '{word}.{word}; '{word}('{word});}}"))
        for word in ("catch", "else", "fun", "drop", "let", "if", "while", "try", "return", "show", "throw"):
            self.refused_in_body(f"show {word};", 5)
            self.refused_in_body(f"neg({word});", 4)

    def test_other_words_must_not_have_the_mark(self):
        self.refused("fun f('a) {}", 6)
        self.refused("fun 'f() {}", 4)
        self.refused("fun 'if() {}", 4)
        self.refused_in_body("'a;", 0)
        self.refused_in_body("'neg(a);", 0)
        self.refused_in_body("a.'f;", 2)
        self.refused_in_body("a.'if;", 2)
        self.refused_in_body("let 'b = a;", 4)

    def test_assignments_to_what_is_no_target(self):
        for text, place in (
            ("a = b;", 2), ("none = b;", 5), ("#num:1 = b;", 7), ("!e = b;", 3), ("a.m() = b;", 6), ("neg(a) = b;", 7),
            ("new(a) = b;", 7), ("call a() = b;", 9), ("a == b = a;", 7), ("a.f == b.f = a;", 11), ("(a.f) = b;", 6),
            ("($g) = b;", 5), ("((a).f) = b;", 8), ("(a == b) = a;", 9), ("$g == a = b;", 8), ("a.f = b = a;", 8),
            ("$g = $h = a;", 8), ("a.f.m() = b;", 8), ("let a.f = b;", 5), ("let $g = b;", 4), ("a.f = = b;", 6),
            ("a.f === b;", 6), ("= a;", 0), ("return a.f = b;", 11), ("show $g = b;", 8), ("if a.f = b {}", 7),
        ):
            self.refused_in_body(text, place)

    def test_after_drop(self):
        for text, place in (
            ("drop a;", 6), ("drop a == b.f;", 7), ("drop a.f == b;", 9), ("drop (a.f);", 10), ("drop a.m();", 10),
            ("drop $g;", 7), ("drop none;", 9), ("drop call a();", 13), ("drop (a == b);", 13), ("drop new(a);", 11),
            ("drop neg(a);", 11), ("drop ;", 5), ("drop a.f = b;", 9), ("drop a.f.;", 9), ("drop a", 6),
            ("drop a b", 7), ("drop a }", 7), ("drop a.f }", 9), ("drop (a.f).m();", 14),
        ):
            self.refused_in_body(text, place)
        self.assertEqual(len(body_of("drop neg(a == b).f; drop (a == b).f; drop a.m(a == b).f;")), 3)

    def test_brackets_that_are_necessary(self):
        for text, place in (
            ("a == b == a;", 7), ("(a == b) == a == b;", 14), ("call a.f(b);", 6), ("call new(a)();", 5),
            ("call neg(a)(b);", 11), ("call call a()();", 5), ("call a;", 6), ("call a.m();", 6), ("$g(a);", 2),
            ("none(a);", 4), ("a.f(b)(a);", 6), ("(a)(b);", 3), ("new a;", 4), ("new(a, b);", 5), ("new();", 4),
            ("neg();", 4), ("add(a, b, a);", 8), ("add(a,);", 6), ("call a(b,);", 9), ("call a(,);", 7),
            ("a.m(b,);", 6), ("a.m(,b);", 4), ("(a;", 2), ("a);", 1), ("();", 1), ("call ();", 6), ("call (a;", 7),
            ("a.(b);", 2), ("a..f;", 2), (".f;", 0), ("add(a b);", 6), ("== a;", 0), ("a == ;", 5),
        ):
            self.refused_in_body(text, place)

    def test_statements(self):
        for text, place in (
            (";", 0), ("a;;", 2), ("a }", 2), ("let b a;", 6), ("let = a;", 4), ("let b = ;", 8), ("return;", 6),
            ("throw;", 5), ("show;", 4), ("if {}", 3), ("if a a;", 5), ("if a {};", 7), ("if a {} else a;", 13),
            ("if a {} else {} else {}", 16), ("else {}", 0), ("while {}", 6), ("while a {};", 10),
            ("while a {} else {}", 11),
            ("try a;", 4), ("try {} a;", 7), ("try {} catch {}", 13), ("try {} catch e a;", 15), ("catch e {}", 0),
            ("try {} catch e {};", 17), ("fun g() {}", 0), ("{}", 0), ("try {} catch (e) {}", 13), ("$g a;", 3),
            ("if a {} else if a {}", 13),
        ):
            self.refused_in_body(text, place)

    def test_functions(self):
        for text, place in (
            ("f", 0), ("fun", 3), ("fun (", 4), ("fun f", 5), ("fun f {", 6), ("fun f(", 6), ("fun f(,", 6),
            ("fun f(a", 7), ("fun f(a,)", 8), ("fun f(a b)", 8), ("fun f(a, ", 9), ("fun f($a)", 6), ("fun f(())", 6),
            ("fun f()", 7), ("fun f();", 7), ("fun f() a", 8), ("fun f() {", 9), ("fun f() {}}", 10),
            ("fun f() {};", 10),
            ("fun f() {} a", 11), ("fun f() {} fun", 14), ("fun #num:1() {}", 4), ("fun f(#num:1) {}", 6), ("{}", 0),
            ("a;", 0),
        ):
            self.refused(text, place)

    def test_very_deep_texts_are_refused(self):
        self.refused_in_body("(" * 100, 100)
        self.refused_in_body("(" * 100 + ")", 100)


class AllTexts(ReaderTest):
    """Texts with one lexeme left out, put in, or exchanged are refused where the second reading refuses them."""

    LEXEMES = ("a", "let", "'if", "$g", "none", "#num:1", "!e", ".", "(", ")", ",", ";", "{", "}", "=", "==", "fun",
               "new", "call", "drop", "if", "else", "try", "catch", "@", "'b", "show")
    SAMPLES = (
        "fun f ( a , 'if ) { let b = a . f ; drop ( a == b ) . f ; }",
        "fun f ( a ) { if a == a { $g = call ( a . f ) ( a , none ) . g ; } else { a . m ( ) ; } }",
        "fun f ( a ) { try { a . f = new ( a ) ; } catch e { neg ( $g , #num:1 ) ; } } fun g ( ) { }",
        "fun f ( ) { while !e { return &f == yes ; } call $g ( ) . f = no ; }",
    )

    def agrees(self, lexemes):
        text = " ".join(lexemes)
        try:
            read(text)
            place = None
        except BadText as error:
            place = error.place
        except (TwiceTold, LookupError):
            place = None
        self.assertEqual(place, refused_at(text), text)

    def test_samples(self):
        for sample in self.SAMPLES:
            lexemes = sample.split()
            for at in range(len(lexemes)):
                self.agrees(lexemes[:at] + lexemes[at + 1:])
                self.agrees(lexemes[:at] + lexemes[at + 1:at + 2] + lexemes[at:at + 1] + lexemes[at + 2:])
                for other in self.LEXEMES:
                    self.agrees(lexemes[:at] + [other] + lexemes[at:])
                    self.agrees(lexemes[:at] + [other] + lexemes[at + 1:])


if __name__ == "__main__":
    unittest.main()
