"""Drawn versions for tests: slow versions, to which makers and small changes are applied."""

import random

from samples import FIELDS, GLOBALS, LOCALS, NO, NONE, YES, Maker, ground, num
from shapeguess.checking import check_version
from shapeguess.errors import BadShape, BadVersion
from shapeguess.inside import put_inside
from shapeguess.quick import end_of
from shapeguess.slow import slow
from shapeguess.special import (gone_on, with_above, with_global, with_grown, with_method, with_own, with_variant)
from shapeguess.trees import Program
from slowversion import with_part

MARKS = (NONE, YES, NO, num(0), num(1), num(2), ("tok", "col", 1), ("err", "e"), ("err", "object"), ("fun", "f"),
         ("fun", "main"), ("fun", "zz"), ("name", "n"), ("name", "o"))
KINDS = ("none", "bit", "err", "fun", "obj", "num", "col")


def without_row(version, number):
    """A version without one of its rows, to which nothing leads but the row before it."""
    rows = version.rows()
    del rows[number]
    moved = [row[:-1] + (row[-1] - (row[-1] > number),) if row[0] in ("jump", "test") else row for row in rows]
    return with_part(version, rows=moved)


def is_right(program, version):
    try:
        check_version(program, version)
    except BadVersion:
        return False
    return True


class VersionMaker:
    def __init__(self, seed):
        self.random = random.Random(seed)
        self.maker = Maker(seed)

    def pick(self, members):
        return self.random.choice(list(members))

    def program(self):
        return Program(ground(), [self.function("main", ("a", "b")), self.function("f", ("a",)),
                                  self.function("k", ("none", "b"))])

    def function(self, name, parameters):
        head = tuple(("let", x, self.maker.expression_of_start()) for x in LOCALS if x not in parameters)
        return (name, parameters, head + tuple(self.maker.statement(1) for _ in range(self.random.randint(1, 4))))

    def shape(self, names):
        return (self.pick([None] + list(names)), tuple(self.random.sample(FIELDS, self.random.randint(0, 2))))

    def mark(self, names):
        return self.pick([mark for mark in MARKS if mark[0] != "name" or mark[1] in names])

    def fact(self, registers, names):
        q, word = self.pick(registers), self.pick(("kind", "kind", "is", "shape", "same", "unlike"))
        if word == "kind":
            return (word, q, self.pick(KINDS))
        if word == "is":
            return (word, q, self.mark(names))
        return (word, q, self.shape(names) if word == "shape" else self.pick(registers))

    def watched(self, names):
        word = self.pick(("global", "holds", "slot"))
        if word == "global" or not names:
            return ("global", self.pick(GLOBALS), self.mark(names))
        if word == "holds":
            return (word, self.pick(names), self.shape(names))
        return (word, self.pick(names), self.pick(FIELDS), self.mark(names))

    def with_fact(self, version):
        """The version with one more fact of a point."""
        points = version.points()
        k = self.random.randrange(len(points))
        row, facts, pairs = points[k]
        registers = [place[1] for _, place in pairs if place[0] == "reg"]
        if registers:
            points[k] = (row, facts + (self.fact(registers, version.names()),), pairs)
        return with_part(version, points=points)

    def sound(self, program, steps):
        """A version that makers made of a slow one, one step after the other."""
        version = with_part(slow(program, self.pick(program.names())), names=self.pick(([], ["n"], ["n", "o"])))
        for _ in range(steps):
            version = self.made(program, version)
        return version

    def guessing(self, program, steps):
        """A version with some facts that nobody keeps; made as the sound ones are."""
        version = with_part(slow(program, self.pick(program.names())), names=self.pick(([], ["n"], ["n", "o"])))
        more = [self.watched(version.names()) for _ in range(self.random.randint(0, 2))]
        version = with_part(version, watched=more)
        for _ in range(self.random.randint(0, 3)):
            other = self.with_fact(version)
            version = other if is_right(program, other) else version
        for _ in range(steps):
            version = self.made(program, version)
        return version

    def made(self, program, version):
        """What a maker makes at a drawn row, or the version itself where it makes nothing."""
        number = self.random.randrange(len(version.rows()))
        try:
            return self.replaced(program, version, number, version.row(number), version.names())
        except BadShape:
            return version

    def replaced(self, program, version, number, row, names):
        word = row[0]
        root, fields = self.shape(names)
        if word == "get":
            if names and self.random.random() < 0.4:
                return with_above(program, version, number, *self.chain(names, row[3]))
            return with_own(program, version, number, (root, tuple(f for f in fields if f != row[3]) + (row[3],)))
        if word == "set":
            make = with_own if row[2] in fields else with_grown
            return make(program, version, number, (root, fields))
        if word == "method" and names:
            return with_method(program, version, number, *self.chain(names, row[3]), self.pick(program.names()))
        if word == "prim":
            variants = [variant for variant in program.signature().variants(row[2]) if len(variant[1]) == len(row[3])]
            return with_variant(program, version, number, self.pick(variants)[0]) if variants else version
        if word == "global":
            return with_global(program, version, number, self.mark(names))
        if word == "link":
            return gone_on(program, version, number)
        if word == "call":
            return put_inside(program, version, number, slow(program, self.pick(program.names())))
        return version

    def chain(self, names, field):
        """A shape, and a chain of one or two that leads to a field."""
        if len(names) > 1 and self.random.random() < 0.5:
            return (names[0], ()), ((names[0], (names[1], ())), (names[1], (None, (field,))))
        more = tuple(f for f in FIELDS[:1] if f != field)
        return (names[0], more[:self.random.randint(0, 1)]), ((names[0], (None, (field,) + more)),)

    def bent(self, program, version):
        """The version with a small change, which is right, but perhaps not closed any more."""
        for _ in range(30):
            other = self.changed(version)
            if other is not None and other != version and is_right(program, other):
                return other
        return version

    def changed(self, version):
        rows = version.rows()
        number = self.random.randrange(len(rows))
        row, end = rows[number], end_of(rows[number])
        how = self.random.randrange(8)
        if how == 0 and end is not None:
            rows[number] = self.with_end(row, end, (max(0, end[0] + self.pick((-1, 1))), end[1]))
        elif how == 1 and row[0] in ("link", "return"):
            rows[number] = (row[0], max(0, row[1] + self.pick((-1, 1)))) + row[2:]
        elif how == 2:
            rows[number] = self.with_member(version, row)
        elif how == 3 and row[0] == "check":
            return without_row(version, number)
        elif how == 4 and end is not None:
            rows[number] = self.with_end(row, end, self.with_place(version, end))
        elif how == 5 and row[0] == "const":
            rows[number] = ("const", row[1], self.mark(version.names()))
        elif how == 6 and row[0] == "check":
            rows[number] = ("check", self.fact(range(version.registers()), version.names()), row[2])
        elif how == 7:
            return self.with_fact(version)
        return with_part(version, rows=rows)

    def with_end(self, row, old, end):
        return tuple(end if member is old else member for member in row)

    def with_member(self, version, row):
        at = self.random.randrange(1, len(row))
        member = row[at]
        if isinstance(member, int):
            member = self.random.randrange(version.registers())
        elif member in FIELDS:
            member = self.pick(FIELDS)
        elif isinstance(member, tuple) and member and all(isinstance(q, int) for q in member):
            member = member[:-1] + (self.random.randrange(version.registers()),)
        return row[:at] + (member,) + row[at + 1:]

    def with_place(self, version, end):
        function, row, pairs = end[1][-1]
        if not pairs:
            return end
        at = self.random.randrange(len(pairs))
        marks = [("reg", self.random.randrange(version.registers())), ("value", self.pick(MARKS[:12]))]
        place = self.pick(marks + [("name", name) for name in version.names()])
        pairs = pairs[:at] + ((pairs[at][0], place),) + pairs[at + 1:]
        return (end[0], end[1][:-1] + ((function, row, pairs),))
