"""Layouts and rebuilt states (S7.8); shapeguess/rebuilding.py."""

import unittest

from samples import NONE, NO, YES, Maker, ground, ground_book, num, program_of
from shapeguess.alike import alike
from shapeguess.errors import BadState, UnknownName
from shapeguess.points import entered, told_frames
from shapeguess.quick import Version, end_of, steps_told
from shapeguess.quickrun import quick_run
from shapeguess.rebuilding import held_of, rebuilt
from shapeguess.shapes import Shapes
from shapeguess.states import State, start
from shapeguess.steps import run, step
from shapeguess.trees import Program
from slowversion import slow_version
from versionsample import PROGRAM, sample

BOOK = ground_book()
OBJECTS = [(None, (("f", num(1)),)), (0, ())]
HELD = (OBJECTS, {"g": YES, "h": ("obj", 1)}, [NONE, ("obj", 0)])
Q = [("err", "q" + str(q)) for q in range(10)]
PLAIN_MAIN = ("main", 2, (YES, NO, NONE, num(1)))
PLAIN_F = ("f", 0, (YES, num(2), NONE))


def obj(number):
    return ("obj", number)


class RebuildTest(unittest.TestCase):
    def frames(self, layout, *frames):
        """The rebuilt state has these frames, and the held part; what is handed in stays as it is."""
        given = ([tuple(member) for member in layout], (list(OBJECTS), dict(HELD[1]), list(HELD[2])))
        state = rebuilt(PROGRAM, BOOK, given[0], given[1])
        self.assertIsInstance(state, State)
        self.assertEqual(state.frames(), list(frames))
        self.assertEqual(held_of(state), HELD)
        self.assertEqual((state.program(), state.book(), state.end()), (PROGRAM, BOOK, None))
        self.assertEqual(given, (list(layout), HELD))
        self.assertEqual(rebuilt(PROGRAM, BOOK, tuple(layout), (tuple(OBJECTS), HELD[1], tuple(HELD[2]))), state)
        self.assertEqual(state, State(PROGRAM, BOOK, list(frames), *HELD))
        return state


class HeldParts(RebuildTest):
    def test_held_of(self):
        state = State(PROGRAM, BOOK, [PLAIN_F], *HELD)
        told = held_of(state)
        self.assertEqual(told, HELD)
        self.assertIsInstance(told, tuple)
        self.assertEqual([type(part) for part in told], [list, dict, list])
        for part in told:
            part.clear()
        self.assertEqual(held_of(state), HELD)
        ended, _ = run(State(PROGRAM, BOOK, [("main", 9, (NO,) * 4)], *HELD), 1)
        self.assertEqual(held_of(ended), HELD)


class Layouts(RebuildTest):
    def test_plain_members(self):
        self.frames([("plain", PLAIN_F)], PLAIN_F)
        self.frames([("plain", PLAIN_MAIN), ("plain", PLAIN_F)], PLAIN_MAIN, PLAIN_F)

    def test_points(self):
        self.frames([("point", sample(), [0, 1], 0, Q)], ("main", 0, (Q[0], Q[1], NONE, NONE)))
        self.frames([("point", sample(), (1, 0), 3, tuple(Q))], ("main", 2, (Q[0], ("fun", "f"), NONE, NONE)))
        self.frames([("plain", PLAIN_MAIN), ("point", sample(), [0, 1], 4, Q)],
                    PLAIN_MAIN, ("main", 7, (NONE, NONE, NONE, Q[3])))

    def test_versions_that_wait(self):
        call, method = ("call", sample(), [0, 1], 4, Q), ("call", sample(), [0, 1], 7, Q)
        at_call, at_method = ("main", 2, (Q[0], Q[1], NONE, NONE)), ("main", 4, (Q[0], Q[1], NONE, NONE))
        self.frames([call, ("plain", PLAIN_F)], at_call, PLAIN_F)
        self.frames([method, call, ("plain", PLAIN_F)], at_method, at_call, PLAIN_F)
        self.frames([call, ("plain", PLAIN_MAIN), method, ("point", sample(), [0, 1], 1, Q)],
                    at_call, PLAIN_MAIN, at_method, ("main", 3, (Q[0], Q[1], Q[2], NONE)))
        self.frames([call], at_call)

    def test_names(self):
        places = ((0, ("name", "o")), (1, ("name", "n")))
        told = (0, (("main", 2, places),))
        version = Version("main", ["n", "o"], [], 3, [("point", 0), ("call", 2, 1, (0,), told, 0)], [(2, (), places)])
        for binding in ([0, 1], [1, 0]):
            expected = ("main", 2, (obj(binding[1]), obj(binding[0]), NONE, NONE))
            self.frames([("call", version, binding, 1, [NONE] * 3), ("point", version, binding, 0, [NONE] * 3)],
                        expected, expected)

    def test_wrong_numbers(self):
        for number in (None, True, -1, 99, 10 ** 40, "0", [], {}, Shapes()):
            for word in ("point", "call"):
                with self.assertRaises(UnknownName) as caught:
                    rebuilt(PROGRAM, BOOK, [(word, sample(), [0, 1], number, Q)], HELD)
                self.assertIs(caught.exception.name, number)

    def test_parts_that_are_no_state(self):
        with self.assertRaises(BadState) as caught:
            rebuilt(PROGRAM, BOOK, [("plain", PLAIN_F), ("plain", ("f", 1, (NONE,) * 3)), ("plain", PLAIN_F)], HELD)
        self.assertEqual(caught.exception.word, "frames")


TEXT = (
    "fun main() {let o = new(none); o.m = &sum; let p = new(o); let k = #num:0; while less(k, #num:2) {"
    "show p.m(k); try {show call &far(o, k);} catch e {show e;} p.k = k; let k = add(k, #num:1);}"
    "return call &sum(p, k);}"
    "fun sum(o, x) {if x == #num:0 {return x;} return add(x, o.m(add(x, #num:2)));}"
    "fun far(o, x) {let y = new(o); throw y.nowhere;}"
)


class AgainstPlainRuns(RebuildTest):
    """Runs in slow versions alone: the rebuilt state is alike to the plain one after as many steps."""

    def run_in_versions(self, program, most):
        versions = {function: slow_version(program, function) for function in program.names()}
        plain = start(program, BOOK, "main", [])
        layout = [self.point(versions["main"], plain)]
        held, counted = held_of(plain), 0
        words = {}
        for _ in range(most):
            state = rebuilt(program, BOOK, layout, held)
            plain, steps = run(plain, counted)
            self.assertEqual(steps, counted)
            if plain.end() is not None:
                return words
            self.assertTrue(alike(state, plain))
            _, version, binding, k, registers = layout[-1]
            told = quick_run(program, BOOK, version, binding, k, registers, held)
            words[told[0]] = words.get(told[0], 0) + 1
            counted = steps_told(version, told[1])
            held = told[3]
            row = version.row(told[1])
            if told[0] == "link":
                layout[-1] = ("point", version, binding, row[2], told[2])
            elif told[0] == "call":
                layout[-1] = ("call", version, binding, told[1], told[2])
                inside = rebuilt(program, BOOK, layout, held)
                layout.append(self.point(versions[told[4]], step(inside)))
                counted += 1
            else:
                self.go_on_in_plain_rows(program, layout, held, told)
                # The rest of the way is plain: one step, after which all frames are in versions again.
                state = step(rebuilt(program, BOOK, layout, held))
                held, counted = held_of(state), counted + 1
                if state.end() is None:
                    layout = self.points_of(versions, state)
        return words

    def go_on_in_plain_rows(self, program, layout, held, told):
        """Going back: the told frames in the place of the innermost one. A return does it at its point."""
        _, version, binding, k, _ = layout.pop()
        if told[0] == "back":
            frames = told_frames(program, version, binding, end_of(version.row(told[1])), told[2])
            layout.extend(("plain", frame) for frame in frames)
        else:
            self.assertEqual(told[0], "return")
            layout.append(("point", version, binding, k, told[2]))

    def point(self, version, state):
        row = state.frames()[-1][1]
        return ("point", version, [], row, entered(state, version, [], row))

    def points_of(self, versions, state):
        """A layout in which the innermost frame is in a version, and the waiting ones are plain."""
        layout = [("plain", frame) for frame in state.frames()[:-1]]
        return layout + [self.point(versions[state.frames()[-1][0]], state)]

    def test_calls_and_throws(self):
        words = self.run_in_versions(program_of(TEXT), 300)
        self.assertEqual(set(words), {"link", "call", "return", "back"})
        self.assertGreater(min(words.values()), 1)

    def test_drawn_programs(self):
        links = 0
        for seed in range(25):
            links += self.run_in_versions(Program(ground(), Maker(seed).lively_functions()), 120).get("link", 0)
        self.assertGreater(links, 500)


if __name__ == "__main__":
    unittest.main()
