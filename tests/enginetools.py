"""Engines for tests: a run beside the plain machine, and versions that are made from what cells have learned."""

from shapeguess.alike import alike, reached
from shapeguess.choices import can_do
from shapeguess.errors import BadChoice, BadShape
from shapeguess.inside import put_inside
from shapeguess.quick import end_of, piece
from shapeguess.slow import slow
from shapeguess.special import gone_on, specialized, with_global, with_method
from shapeguess.steps import run
from slowversion import with_part


class Play:
    """An engine beside the plain machine: behind each choice the rebuilt state is alike to the plain one."""

    def __init__(self, test, engine):
        self.test, self.engine = test, engine
        self.plain = engine.rebuilt()
        self.steps = engine.steps()

    def do(self, *choice):
        self.test.assertIs(can_do(self.engine, choice), True)
        told = self.engine.do(choice)
        self.compare()
        return told

    def compare(self):
        counted = self.engine.steps() - self.steps
        self.plain, made = run(self.plain, counted)
        self.steps = self.engine.steps()
        rebuilt = self.engine.rebuilt()
        self.test.assertEqual(made, counted)
        self.test.assertTrue(alike(self.plain, rebuilt))
        self.test.assertEqual(len(self.engine.shown()), len(self.plain.shown()))
        self.test.assertEqual((rebuilt.end(), rebuilt.shown()), (self.engine.end(), self.engine.shown()))

    def refuse(self, *choice):
        """The choice cannot be made, and nothing has changed then."""
        twin = self.engine.twin()
        self.test.assertIs(can_do(self.engine, choice), False)
        with self.test.assertRaises(BadChoice):
            self.engine.do(choice)
        self.test.assertEqual(self.engine, twin)

    def until(self, frame):
        """Make steps until the innermost frame is this one."""
        for _ in range(200):
            if self.engine.end() is None and self.engine.frames()[-1] == frame:
                return
            self.do("step")
        self.test.fail(frame)

    def last(self):
        return self.engine.frames()[-1]


def told_entry(table, entry):
    """An entry of a cell with shapes in the place of their numbers."""
    shape, how = entry
    if how[0] == "up":
        how = (how[0], tuple((number, table.shape(inner)) for number, inner in how[1]), how[2])
    elif how[0] == "grow":
        how = (how[0], table.shape(how[1]), how[2])
    return (table.shape(shape), how)


class Guessing:
    """A maker of versions that believe what the cells and the globals of an engine tell."""

    def __init__(self, random, most=20):
        self.random = random
        self.most = most

    def make(self, engine, function):
        program, state = engine.rebuilt().program(), engine.rebuilt()
        objects = reached(state)[:4]
        names = {number: f"n{at}" for at, number in enumerate(objects)}
        version = with_part(slow(program, function), names=[names[number] for number in objects])
        for number in range(len(version.rows()))[::-1]:
            try:
                version = self.guessed(engine, state, names, version, number)
            except (BadShape, KeyError):
                pass
        for _ in range(self.random.randint(0, self.most)):
            version = self.joined(program, version)
        return version, tuple(objects)

    def guessed(self, engine, state, names, version, number):
        row, program = version.row(number), state.program()
        if row[0] == "global" and row[2] in state.global_values():
            value = state.global_values()[row[2]]
            return with_global(program, version, number, ("name", names[value[1]]) if value[0] == "obj" else value)
        if row[0] not in ("get", "set", "method"):
            return version
        entries = engine.cells()[(version.function(), end_of(row)[1][0][1])]
        if entries == "many" or not entries:
            return version
        entry = told_entry(engine.table(), entries[0])
        if row[0] != "method":
            return specialized(program, version, [(number, entry)], names)
        if entry[1][0] != "up":
            return version
        shape, chain = self.named(names, entry[0]), entry[1][1]
        found = dict(state.objects()[chain[-1][0]][1]).get(row[3], ("none",))
        told = tuple((names[at], self.named(names, inner)) for at, inner in chain)
        return with_method(program, version, number, shape, told, found[-1])

    def named(self, names, shape):
        return (None if shape[0] is None else names[shape[0]], shape[1])

    def joined(self, program, version):
        """The version gone on at a drawn link, or with a function put inside at a drawn call."""
        rows = version.rows()
        number = self.random.randrange(len(rows))
        try:
            if rows[number][0] == "link" and len(rows) < 120:
                return gone_on(program, version, number)
            if rows[number][0] == "call":
                return put_inside(program, version, number, self.whole(program, self.random.choice(program.names())))
        except BadShape:
            pass
        return version

    def whole(self, program, function):
        """The slow version of a function whose first piece goes on as far as it can."""
        version = slow(program, function)
        for _ in range(12):
            links = [at for at in piece(version, 0) if version.row(at)[0] == "link"]
            if not links:
                break
            version = gone_on(program, version, links[0])
        return version
