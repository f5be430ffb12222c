"""Starts for tests: the answers that a start gives to questions, and drawn starts of points of versions."""

import random

from samples import FIELDS, GLOBALS, NO, NONE, YES, ground, num
from shapeguess.books import Book, apply
from shapeguess.compiling import compiled
from shapeguess.errors import BadState
from shapeguess.points import entered
from shapeguess.states import State
from shapeguess.terms import candidates, first_known
from shapeguess.values import kind_of


class Answering:
    """A start that is asked one question after the other, as a second model of S8.2 to S8.4."""

    def __init__(self, program, version, k, book, state, objects):
        kinds = ["err", "fun"] + program.signature().kinds()
        self.book, self.state = book, state
        self.objects = list(objects)
        self.names = dict(zip(version.names(), objects))
        self.known = {kind: list(first_known(program, version, kind)) for kind in kinds}
        self.registers = entered(state, version, objects, k)
        self.candidates = candidates(version)

    def value(self, term):
        """What a term stands for, None for a global without a value."""
        word = term[0]
        if word == "value":
            return term[1]
        if word == "start":
            return self.registers[term[1]]
        if word == "known":
            return ("obj", self.objects[term[1]])
        if word == "field":
            return dict(self.state.objects()[self.objects[term[1]]][1])[term[2]]
        if word == "global":
            return self.state.global_values().get(term[1])
        return apply(self.book, term[1], tuple(self.value(arg) for arg in term[2]))

    def number(self, value):
        known = self.objects if value[0] == "obj" else self.known[kind_of(value)]
        told = value[1] if value[0] == "obj" else value
        if told in known:
            return known.index(told)
        known.append(told)
        return "further"

    def answer(self, question):
        word = question[0]
        if word == "kind":
            value = self.value(question[1])
            return "unset" if value is None else kind_of(value)
        if word == "bit":
            return self.value(question[1])[1]
        if word == "which":
            return self.number(self.value(question[1]))
        parent, fields = self.state.objects()[self.objects[question[1]]]
        if word == "has":
            return "yes" if question[2] in dict(fields) else "no"
        if word == "parent":
            return "none" if parent is None else self.number(("obj", parent))
        for root, names in self.candidates:
            if parent == (None if root is None else self.names[root]) and tuple(f for f, _ in fields) == names:
                return (root, names)
        return "other"


class StartMaker:
    """Drawn states in which facts often hold, with every object shown, and the binding of the first objects."""

    def __init__(self, seed):
        self.random = random.Random(seed)

    def book(self):
        draw = self.random.randrange
        bits = [self.random.choice(("yes", "no")) for _ in range(9)]
        tables = {"addnum": [draw(3) for _ in range(9)], "paint": [draw(2) for _ in range(6)],
                  "negnum": [draw(3) for _ in range(3)], "lessnum": bits}
        return Book(ground(), {"num": 3, "col": 2}, tables)

    def start(self, program, version, k):
        """A tuple (book, state, objects), or None if what was drawn is no state."""
        many = self.random.randint(max(1, len(version.names())), 5)
        numbers = {name: number for number, name in enumerate(version.names())}
        pool = [NONE, YES, NO, num(0), num(1), num(2), ("tok", "col", 1), ("err", "e"), ("err", "q"), ("fun", "f"),
                ("fun", "k"), ("fun", "zz")] + [("obj", number) for number in range(many)] * 2
        objects = [self.drawn_object(pool, many) for _ in range(many)]
        told = {g: self.random.choice(pool) for g in GLOBALS if self.random.random() < 0.8}
        registers = [self.random.choice(pool) for _ in range(version.registers())]
        self.obey_facts(version.point(k)[1], numbers, pool, objects, registers)
        self.obey_watched(version.watched(), numbers, pool, objects, told)
        row, _, pairs = version.point(k)
        values = [self.random.choice(pool) for _ in range(compiled(program)[version.function()].registers())]
        for at, place in pairs:
            values[at] = registers[place[1]] if place[0] == "reg" else self.meaning(numbers, place)
        plain = [(parent, tuple(map(tuple, fields))) for parent, fields in objects]
        shown = [("obj", number) for number in range(many)]
        book = self.book()
        try:
            state = State(program, book, [(version.function(), row, tuple(values))], plain, told, shown)
        except BadState:
            return None
        return book, state, list(range(len(numbers)))

    def drawn_object(self, pool, many):
        fields = self.random.sample(FIELDS + ("w",), self.random.randint(0, 3))
        return [self.random.choice([None] + list(range(many))), [[f, self.random.choice(pool)] for f in fields]]

    def meaning(self, numbers, mark):
        if mark[0] == "value":
            return mark[1]
        return ("obj", numbers[mark[1]]) if mark[0] == "name" else mark

    def shaped(self, numbers, pool, shape):
        root, fields = shape
        return [None if root is None else numbers[root], [[f, self.random.choice(pool)] for f in fields]]

    def obey_facts(self, facts, numbers, pool, objects, registers):
        for fact in facts:
            if fact[0] == "kind":
                fitting = [value for value in pool if kind_of(value) == fact[2]]
                registers[fact[1]] = self.random.choice(fitting or pool)
            elif fact[0] == "is":
                registers[fact[1]] = self.meaning(numbers, fact[2])
            elif fact[0] == "same":
                registers[fact[2]] = registers[fact[1]]
            elif fact[0] == "shape":
                number = self.random.randrange(len(objects))
                registers[fact[1]] = ("obj", number)
                objects[number] = self.shaped(numbers, pool, fact[2])

    def obey_watched(self, watched, numbers, pool, objects, told):
        for fact in watched:
            if fact[0] == "holds":
                objects[numbers[fact[1]]] = self.shaped(numbers, pool, fact[2])
        for fact in watched:
            if fact[0] == "global":
                told[fact[1]] = self.meaning(numbers, fact[2])
            elif fact[0] == "slot":
                for pair in objects[numbers[fact[1]]][1]:
                    if pair[0] == fact[2]:
                        pair[1] = self.meaning(numbers, fact[3])
