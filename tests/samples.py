"""Signatures, books, trees and random programs that several tests use."""

import random

from shapeguess.books import Book
from shapeguess.reader import read_program
from shapeguess.signatures import Signature

NONE = ("none",)
YES = ("bit", "yes")
NO = ("bit", "no")
WORD_OF_12 = "abcdefghijkl"
WORD_OF_13 = "abcdefghijklm"

# What is no word, no value and no name of anything, whatever it is asked for.
STRANGE = (
    None, True, False, -1, 7, 10 ** 40, "", "A", "1a", "a b", "a_b", WORD_OF_13, "\u00e9", (), ("a",), [], ["a"], {},
    {"a": 1}, ("tok", "num", True), [[]], ((),), ("none",) * 2,
)


def ground():
    return Signature(
        ["num", "col"],
        {
            "add": [("addnum", ("num", "num"), "num"), ("paint", ("num", "col"), "col")],
            "neg": [("negnum", ("num",), "num")],
            "less": [("lessnum", ("num", "num"), "bit")],
            "idle": [],
        },
    )


def ground_book(signature=None):
    return Book(
        signature or ground(),
        {"num": 3, "col": 2},
        {
            "addnum": [0, 1, 2, 1, 2, 0, 2, 0, 1],
            "paint": [0, 1, 1, 0, 0, 1],
            "negnum": [0, 2, 1],
            "lessnum": ["no", "yes", "yes", "no", "no", "yes", "no", "no", "no"],
        },
    )


def num(number):
    return ("tok", "num", number)


def program_of(text):
    return read_program(ground(), text)


def name(x):
    return ("name", x)


def value(v):
    return ("value", v)


LOCALS = ("a", "b", "let", "none")
FIELDS = ("f", "g", "if")
GLOBALS = ("g", "h", "while")
VALUES = (NONE, YES, NO, num(0), num(1), num(2), ("tok", "col", 1), ("err", "e"), ("fun", "f"), ("fun", "k"))


class Maker:
    """Random right programs; each local is one of the two parameters of its function, so that all names exist."""

    def __init__(self, seed):
        self.random = random.Random(seed)

    def word(self, words):
        return self.random.choice(words)

    def expressions(self, most, depth):
        return tuple(self.expression(depth) for _ in range(self.random.randint(0, most)))

    def expression(self, depth):
        forms = ("name", "name", "value", "global")
        if depth > 0:
            forms += ("get", "get", "new", "new", "prim", "same", "call", "method", "value")
        form = self.word(forms)
        inner = depth - 1
        if form == "name":
            return (form, self.word(LOCALS))
        if form == "global":
            return (form, self.word(GLOBALS))
        if form == "value":
            return (form, self.word(VALUES))
        if form == "get":
            return (form, self.expression(inner), self.word(FIELDS))
        if form == "new":
            return (form, self.expression(inner))
        if form == "prim":
            count = self.random.randint(1, 2)
            args = tuple(self.expression(inner) for _ in range(count))
            return (form, self.word(("add", "neg", "less", "idle")), args)
        if form == "same":
            return (form, self.expression(inner), self.expression(inner))
        if form == "call":
            return (form, self.expression(inner), self.expressions(2, inner))
        return (form, self.expression(inner), self.word(FIELDS), self.expressions(2, inner))

    def statements(self, most, depth):
        return tuple(self.statement(depth) for _ in range(self.random.randint(0, most)))

    def statement(self, depth):
        forms = ("let", "let", "put", "set", "set", "set", "drop", "return", "throw", "show", "show", "do")
        if depth > 0:
            forms += ("if", "while", "try", "try")
        form = self.word(forms)
        inner = depth - 1
        e = self.expression(2)
        if form == "let":
            return (form, self.word(LOCALS), e)
        if form == "put":
            return (form, self.word(GLOBALS), e)
        if form == "set":
            return (form, e, self.word(FIELDS), self.expression(2))
        if form == "drop":
            return (form, e, self.word(FIELDS))
        if form == "if":
            return (form, e, self.statements(3, inner), self.statements(2, inner))
        if form == "while":
            return (form, e, self.statements(3, inner))
        if form == "try":
            return (form, self.statements(4, inner), self.word(LOCALS), self.statements(3, inner))
        return (form, e)

    def function(self, word, parameters):
        # The locals that are no parameters are introduced first.
        rest = [x for x in LOCALS if x not in parameters]
        head = tuple(("let", x, self.expression_of_start()) for x in rest)
        body = tuple(self.statement(2) for _ in range(self.random.randint(3, 7)))
        return (word, parameters, head + body)

    def expression_of_start(self):
        made = ("new", ("value", NONE))
        return self.word((made, made, ("value", self.word(VALUES)), ("global", self.word(GLOBALS))))

    def functions(self):
        return [
            self.function("main", ()),
            self.function("f", ("a",)),
            self.function("k", ("none", "b")),
        ]

    def lively_functions(self):
        """Functions that run for a while: all globals exist, objects have methods, most errors are caught and shown."""
        lets = tuple(("let", x, ("new", ("value", NONE))) for x in LOCALS)
        calm = []
        for g, x in zip(GLOBALS, LOCALS):
            method = ("value", self.word((("fun", "f"), ("fun", "k"), num(1), YES)))
            calm.append(("put", g, self.word((("name", x), ("new", ("name", x)), method))))
            calm.append(("set", ("name", x), self.word(FIELDS), method))
            calm.append(("let", x, ("new", self.word((("name", x), ("global", g))))))
        rest = [function[2] for function in self.functions()]
        made = [("main", (), lets + tuple(self.guarded(s) for s in tuple(calm) + rest[0]))]
        for word, parameters, body in (("f", ("a",), rest[1]), ("k", ("none", "b"), rest[2])):
            # The first statements introduce the locals that are no parameters.
            many = len(LOCALS) - len(parameters)
            made.append((word, parameters, body[:many] + tuple(self.guarded(s) for s in body[many:])))
        return made

    def guarded(self, statement):
        if statement[0] in ("return", "throw", "try") or self.random.randint(0, 5) == 0:
            return statement
        return ("try", (statement,), self.word(LOCALS), (("show", ("name", self.word(LOCALS))),))
