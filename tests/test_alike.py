"""Alike states, the least pairing and reached objects (S3.5); shapeguess/alike.py."""

import itertools
import random
import unittest

from samples import NONE, NO, YES, Maker, ground, ground_book, num, program_of
from shapeguess.alike import alike, pairing, reached
from shapeguess.books import Book
from shapeguess.errors import MixedPrograms
from shapeguess.live import live_at, waiting_at
from shapeguess.compiling import compiled
from shapeguess.states import State, start
from shapeguess.steps import run, step
from shapeguess.trees import Program

BOOK = ground_book()
# main: 0 call 3 0 (1), 1 show 2, 2 const 3, 3 return 3; so only 2 waits at row 0, and 0, 1 and 2 are live there.
PROGRAM = program_of("fun main(a, b, c) {call a(b); show c;} fun f(x) {show x; let y = x; show y;}")


def obj(number):
    return ("obj", number)


def main(a, b, c):
    """A frame at the call of main; its temporary is dead."""
    return ("main", 0, (a, b, c, NONE))


def made(frames=(), objects=(), told=None, shown=(), program=PROGRAM):
    frames = list(frames) or [("f", 3, (NONE, NONE, NONE))]
    return State(program, BOOK, frames, list(objects), told or {}, list(shown))


def renumbered(state, order):
    """A state whose object number k has become number order[k]."""
    def value(v):
        return obj(order[v[1]]) if v[0] == "obj" else v

    def plain(k):
        parent, fields = state.objects()[k]
        return (None if parent is None else order[parent], tuple((f, value(v)) for f, v in fields))

    objects = [plain(order.index(k)) for k in range(len(order))]
    frames = [(name, row, tuple(map(value, places))) for name, row, places in state.frames()]
    told = {g: value(v) for g, v in reversed(list(state.global_values().items()))}
    return State(state.program(), state.book(), frames, objects, told, [value(v) for v in state.shown()])


def by_trying(state, other):
    """All pairings of reached objects, found by trying: for states without an end, with few objects."""
    left, right = range(len(state.objects())), range(len(other.objects()))
    found = []
    for many in range(min(len(left), len(right)) + 1):
        for chosen in itertools.combinations(left, many):
            for images in itertools.permutations(right, many):
                if is_pairing(state, other, dict(zip(chosen, images))):
                    found.append(dict(zip(chosen, images)))
        if found:
            return found
    return found


def is_pairing(state, other, pairs):
    def same(v, w):
        return pairs.get(v[1]) == w[1] if v[0] == w[0] == "obj" else v == w

    codes = compiled(state.program())
    if [frame[:2] for frame in state.frames()] != [frame[:2] for frame in other.frames()]:
        return False
    for at, (name, row, places) in enumerate(state.frames()):
        asked = live_at if at == len(state.frames()) - 1 else waiting_at
        if not all(same(places[r], other.frames()[at][2][r]) for r in asked(codes[name], row)):
            return False
    mine, theirs = state.global_values(), other.global_values()
    if set(mine) != set(theirs) or not all(same(mine[g], theirs[g]) for g in mine):
        return False
    if len(state.shown()) != len(other.shown()) or not all(map(same, state.shown(), other.shown())):
        return False
    for k, image in pairs.items():
        (parent, fields), (above, others) = state.objects()[k], other.objects()[image]
        if (parent is None) != (above is None) or (parent is not None and pairs.get(parent) != above):
            return False
        if [f for f, _ in fields] != [f for f, _ in others]:
            return False
        if not all(same(v, w) for (_, v), (_, w) in zip(fields, others)):
            return False
    return True


class AlikeTest(unittest.TestCase):
    def are_alike(self, state, other, pairs):
        self.assertEqual(pairing(state, other), pairs)
        self.assertEqual(pairing(other, state), {image: k for k, image in pairs.items()})
        self.assertIs(alike(state, other), True)
        self.assertIs(alike(other, state), True)

    def are_not(self, state, other):
        for one, two in ((state, other), (other, state)):
            self.assertIsNone(pairing(one, two))
            self.assertIs(alike(one, two), False)


class Alike(AlikeTest):
    OBJECTS = [
        (None, ()), (0, (("f", obj(3)), ("g", num(1)))), (1, (("f", obj(2)),)), (None, (("h", obj(0)),)), (None, ()),
    ]

    def full(self):
        frames = [main(NONE, YES, obj(1)), ("f", 0, (obj(2), NONE, NO))]
        return made(frames, self.OBJECTS, {"g": obj(3), "h": num(2)}, [obj(0), NONE, obj(4)])

    def test_a_state_with_itself(self):
        self.are_alike(self.full(), self.full(), {k: k for k in range(5)})
        self.are_alike(made(), made(), {})

    def test_other_numbers(self):
        for order in itertools.permutations(range(5)):
            other = renumbered(self.full(), list(order))
            self.are_alike(self.full(), other, dict(enumerate(order)))

    def test_unreached_objects(self):
        more = [(None, (("z", obj(1)),)), (5, ())]
        other = State(PROGRAM, BOOK, self.full().frames(), self.OBJECTS + more, self.full().global_values(),
                      self.full().shown())
        self.are_alike(self.full(), other, {k: k for k in range(5)})
        self.are_alike(made(), made(objects=more[:1] + [(None, ())]), {})
        self.assertEqual(reached(other), [0, 1, 2, 3, 4])

    def test_dead_registers(self):
        # In f at row 0 only x is live; in main only c waits at the call, and a and b are live there.
        for dead in (NONE, YES, obj(0), obj(4)):
            frames = [main(dead, dead, obj(1)), ("f", 0, (obj(2), dead, dead))]
            other = State(PROGRAM, BOOK, frames, self.OBJECTS, self.full().global_values(), self.full().shown())
            self.are_alike(self.full(), other, {k: k for k in range(5)})

    def test_registers_that_wait_and_are_live(self):
        for places in ((NONE, YES, obj(1)), (NO, YES, obj(1)), (NONE, NO, obj(1)), (NONE, YES, obj(0))):
            waiting = made([main(*places), ("f", 3, (NONE,) * 3)], self.OBJECTS)
            live = made([main(*places)], self.OBJECTS)
            base = (NONE, YES, obj(1))
            one = made([main(*base), ("f", 3, (NONE,) * 3)], self.OBJECTS)
            if places[2] == base[2]:
                self.are_alike(waiting, one, {1: 1, 0: 0, 3: 3})
            else:
                self.are_not(waiting, one)
            if places == base:
                self.are_alike(live, made([main(*base)], self.OBJECTS), {1: 1, 0: 0, 3: 3})
            else:
                self.are_not(live, made([main(*base)], self.OBJECTS))

    def test_order_of_globals(self):
        objects = [(None, ()), (None, ())]
        one = made(objects=objects, told={"g": obj(0), "h": obj(1)})
        self.are_alike(one, made(objects=objects, told={"h": obj(1), "g": obj(0)}), {0: 0, 1: 1})
        self.are_alike(one, made(objects=objects, told={"h": obj(0), "g": obj(1)}), {0: 1, 1: 0})

    def test_rings_of_fields(self):
        ring = [(None, (("n", obj(1)),)), (None, (("n", obj(2)),)), (None, (("n", obj(0)),))]
        turned = [(None, (("n", obj(2)),)), (None, (("n", obj(0)),)), (None, (("n", obj(1)),))]
        self.are_alike(made(objects=ring, shown=[obj(0)]), made(objects=turned, shown=[obj(0)]), {0: 0, 1: 2, 2: 1})
        short = [(None, (("n", obj(1)),)), (None, (("n", obj(0)),)), (None, ())]
        self.are_not(made(objects=ring, shown=[obj(0)]), made(objects=short, shown=[obj(0)]))

    def test_an_object_in_its_own_field(self):
        one = made(objects=[(None, (("n", obj(0)),))], shown=[obj(0)])
        two = made(objects=[(None, (("n", obj(1)),)), (None, (("n", obj(0)),))], shown=[obj(0)])
        self.are_not(one, two)

    def test_ends(self):
        program = program_of("fun f(x) {return x;} fun g(x) {throw x;} fun h(x) {let y = new(none); return new(x);}")
        ends = {}
        for word in ("f", "g", "h"):
            for value in (NONE, YES):
                ends[word, value] = run(start(program, BOOK, word, [value]), 9)[0]
        one = ends["h", NONE]
        self.assertEqual(one.end(), ("returned", obj(1)))
        for key, state in ends.items():
            for other_key, other in ends.items():
                if key == other_key:
                    self.assertTrue(alike(state, other))
                else:
                    self.are_not(state, other)
        other = State(program, BOOK, [("f", 0, (obj(0), NONE))], [(None, ())], {}, [])
        self.are_alike(step(other), one, {0: 1})
        self.are_not(other, one)
        self.assertEqual(reached(one), [1])

    def test_an_end_and_none(self):
        state = start(PROGRAM, BOOK, "f", [NONE])
        self.are_not(run(state, 99)[0], made(shown=[NONE, NONE]))


class NotAlike(AlikeTest):
    def test_frames(self):
        f = ("f", 3, (NONE,) * 3)
        waits = main(NONE, NONE, NONE)
        for one, two in (([f], [waits]), ([f], [waits, f]), ([waits, f], [waits, waits]),
                         ([f], [("f", 2, (NONE,) * 3)]), ([waits, waits, f], [waits, f])):
            self.are_not(made(one), made(two))
        self.assertTrue(alike(made([waits, f]), made([waits, f])))

    def test_live_registers(self):
        for one, two in ((NONE, YES), (num(0), num(1)), (obj(0), NONE), (("err", "a"), ("fun", "a"))):
            objects = [(None, ())]
            self.are_not(made([("f", 0, (one, NONE, NONE))], objects), made([("f", 0, (two, NONE, NONE))], objects))

    def test_globals(self):
        for told in ({}, {"h": YES}, {"g": NO}, {"g": YES, "h": YES}, {"g": obj(0)}):
            self.are_not(made(told={"g": YES}, objects=[(None, ())]), made(told=told, objects=[(None, ())]))

    def test_shown(self):
        for shown in ([], [YES], [YES, NO, NO], [NO, YES], [YES, NONE]):
            self.are_not(made(shown=[YES, NO]), made(shown=shown))

    def test_objects(self):
        base = [(1, (("f", NONE), ("g", obj(1)))), (None, ())]
        others = (
            [(1, (("f", YES), ("g", obj(1)))), (None, ())],
            [(1, (("g", obj(1)), ("f", NONE))), (None, ())],
            [(1, (("f", NONE), ("h", obj(1)))), (None, ())],
            [(1, (("f", NONE),)), (None, ())],
            [(1, (("f", NONE), ("g", obj(1)), ("h", NONE))), (None, ())],
            [(None, (("f", NONE), ("g", obj(1)))), (None, ())],
            [(1, (("f", NONE), ("g", obj(0)))), (None, ())],
            [(1, (("f", NONE), ("g", obj(2)))), (None, ()), (None, ())],
            [(1, (("f", NONE), ("g", obj(1)))), (None, (("z", NONE),))],
            [(1, (("f", NONE), ("g", NONE))), (None, ())],
            [(1, (("f", NONE), ("g", obj(1)))), (2, ()), (None, ())],
        )
        for objects in others:
            self.are_not(made(objects=base, shown=[obj(0)]), made(objects=objects, shown=[obj(0)]))

    def test_one_to_one(self):
        two = [(None, ()), (None, ())]
        self.are_not(made(objects=two, shown=[obj(0), obj(1)]), made(objects=two, shown=[obj(0), obj(0)]))
        turned = made(objects=two, shown=[obj(1), obj(0)])
        self.are_alike(made(objects=two, shown=[obj(0), obj(1)]), turned, {0: 1, 1: 0})
        self.are_not(
            made(objects=two, shown=[obj(0)], told={"g": obj(0)}), made(objects=two, shown=[obj(0)], told={"g": obj(1)})
        )


class LeastPairing(AlikeTest):
    def test_only_what_is_reached(self):
        objects = [(None, ()), (None, ()), (1, ()), (None, (("f", obj(2)),))]
        self.are_alike(made(objects=objects), made(objects=objects), {})
        self.are_alike(made(objects=objects, shown=[obj(0)]), made(objects=objects, shown=[obj(1)]), {0: 1})
        self.are_alike(made(objects=objects, shown=[obj(2)]), made(objects=objects, shown=[obj(2)]), {1: 1, 2: 2})
        self.are_alike(made(objects=objects, shown=[obj(3)]), made(objects=objects, shown=[obj(3)]), {1: 1, 2: 2, 3: 3})

    def test_what_is_told_is_new(self):
        state = made(objects=[(None, ())], shown=[obj(0)])
        pairing(state, state).clear()
        reached(state).clear()
        self.assertEqual((pairing(state, state), reached(state)), ({0: 0}, [0]))

    def test_against_trying(self):
        chance = random.Random(11)
        seen = {True: 0, False: 0}
        for _ in range(400):
            one, two = random_state(chance), random_state(chance)
            if chance.random() < 0.5:
                order = list(range(len(one.objects())))
                chance.shuffle(order)
                two = renumbered(one, order)
            found = by_trying(one, two)
            made_pairing = pairing(one, two)
            seen[made_pairing is not None] += 1
            if made_pairing is None:
                self.assertEqual(found, [])
            else:
                self.assertEqual(found, [made_pairing])
                self.assertEqual(reached(one), sorted(made_pairing))
                self.assertEqual(reached(two), sorted(made_pairing.values()))
        self.assertGreater(min(seen.values()), 50)


def random_state(chance):
    many = chance.randint(0, 3)

    def value():
        return chance.choice([NONE, YES] + [obj(k) for k in range(many)] * 2)

    objects = []
    for k in range(many):
        parent = chance.choice([None] + list(range(k)))
        objects.append((parent, tuple((f, value()) for f in ("f", "g")[:chance.randint(0, 2)])))
    frames = [("f", chance.choice([0, 3]), (value(), value(), value()))]
    if chance.random() < 0.5:
        frames.insert(0, main(value(), value(), value()))
    told = {"g": value()} if chance.random() < 0.3 else {}
    return State(PROGRAM, BOOK, frames, objects, told, [value() for _ in range(chance.randint(0, 1))])


class Reached(AlikeTest):
    def test_reached(self):
        objects = [(None, ()), (0, ()), (None, (("f", obj(1)),)), (None, ()), (None, (("f", obj(4)),))]
        rows = (([], []), ([obj(0)], [0]), ([obj(1)], [0, 1]), ([obj(2)], [0, 1, 2]), ([obj(3)], [3]), ([obj(4)], [4]),
                ([obj(4), NONE, obj(3), obj(4)], [3, 4]))
        for values, numbers in rows:
            self.assertEqual(reached(made(objects=objects, shown=values)), numbers)
            told = {"g" + str(k): value for k, value in enumerate(values)}
            self.assertEqual(reached(made(objects=objects, told=told)), numbers)

    def test_registers(self):
        objects = [(None, ()), (None, ()), (None, ())]
        state = made([main(obj(0), obj(1), obj(2))], objects)
        self.assertEqual(reached(state), [0, 1, 2])
        state = made([main(obj(0), obj(1), obj(2)), ("f", 3, (obj(0), obj(1), NONE))], objects)
        self.assertEqual(reached(state), [2])

    def test_long_chains(self):
        many = 5000
        objects = [(None, (("n", obj(k + 1)),)) for k in range(many)] + [(None, ())]
        state = made(objects=objects, shown=[obj(0)])
        self.assertEqual(reached(state), list(range(many + 1)))
        self.assertEqual(pairing(state, state), {k: k for k in range(many + 1)})

    def test_many_frames(self):
        program = program_of("fun main(a, b, c) {call a(a, b, c); show c;}")
        state = start(program, BOOK, "main", [("fun", "main"), NONE, YES])
        after, steps = run(state, 3000)
        self.assertEqual((steps, len(after.frames())), (3000, 3001))
        self.assertTrue(alike(after, run(state, 3000)[0]))
        self.assertFalse(alike(after, run(state, 2999)[0]))


class Mixed(AlikeTest):
    def test_mixed_programs(self):
        other_program = program_of("fun f(x) {show x; let y = x; show y;}")
        other_book = Book(ground(), {"num": 3, "col": 2}, {
            **{name: BOOK.table(name) for name in ("addnum", "paint", "lessnum")}, "negnum": [0, 1, 2],
        })
        frames = [("f", 3, (NONE,) * 3)]
        state = made()
        others = (
            State(other_program, BOOK, frames, [], {}, []), State(PROGRAM, other_book, frames, [], {}, []),
            run(State(other_program, BOOK, frames, [], {}, []), 99)[0],
        )
        for other in others:
            for asked in (pairing, alike):
                with self.assertRaises(MixedPrograms):
                    asked(state, other)
                with self.assertRaises(MixedPrograms):
                    asked(other, state)

    def test_equal_programs_and_books(self):
        program = program_of("fun main(a, b, c) {call a(b); show c;} fun f(x) {show x; let y = x; show y;}")
        other = State(program, ground_book(), [("f", 3, (NONE,) * 3)], [], {}, [])
        self.are_alike(made(), other, {})


class AlongRuns(AlikeTest):
    def test_alike_states_stay_alike(self):
        for seed in range(12):
            program = Program(ground(), Maker(seed).lively_functions())
            one, _ = run(start(program, BOOK, "main", []), 20)
            if one.end() is None:
                order = list(range(len(one.objects())))[::-1]
                two = renumbered(one, order)
                while one.end() is None and len(one.objects()) < 30:
                    self.assertTrue(alike(one, two))
                    one, two = step(one), step(two)
                self.assertTrue(alike(one, two))


if __name__ == "__main__":
    unittest.main()
