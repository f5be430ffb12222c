"""Bindings, plain frames of points and of ends, fitting and entering (S7.1, S7.7); shapeguess/points.py."""

import unittest

from samples import NONE, NO, STRANGE, YES, Maker, ground, ground_book, num
from shapeguess.errors import UnknownName
from shapeguess.points import entered, fits_point, frame_at, has_shape, names_right, told_frames
from shapeguess.quick import Version
from shapeguess.shapes import Shapes
from shapeguess.states import State, start
from shapeguess.steps import step
from shapeguess.trees import Program
from slowversion import slow_version, with_part
from versionsample import DEEP_END, INNER_END, PROGRAM, SHAPE, end, sample

BOOK = ground_book()
# The names of the sample are n and o: here objects 2 and 0.
OBJECTS = [(2, (("f", ("obj", 2)),)), (2, (("f", YES), ("g", NO))), (None, (("f", NONE), ("g", NONE))), (0, ()), (None, ())]
BINDING = [2, 0]
NO_POINTS = (None, True, False, -1, 5, 10 ** 40, "", "0", (), (0,), [], {}, Shapes())


def state_at(row, *registers, function="main", objects=tuple(OBJECTS), told=None):
    rest = (NONE,) * ((4 if function == "main" else 3) - len(registers))
    return State(PROGRAM, BOOK, [(function, row, tuple(registers) + rest)], list(objects), told or {}, [])


class PointTest(unittest.TestCase):
    def unknown(self, thing, call, *arguments):
        with self.assertRaises(UnknownName) as caught:
            call(*arguments)
        self.assertIs(caught.exception.name, thing)


class Names(PointTest):
    def test_right_bindings(self):
        state = state_at(0)
        for binding in ([2, 0], (2, 0), [0, 4], (4, 3)):
            self.assertIs(names_right(state, sample(), binding), True)
        self.assertIs(names_right(state, with_part(sample(), names=[]), []), True)
        self.assertIs(names_right(state, with_part(sample(), names=[]), ()), True)

    def test_wrong_bindings(self):
        state = state_at(0)
        for binding in STRANGE + ([2], [2, 0, 1], [2, 2], [0, 5], [-1, 0], [2, True], [False, 2], [None, 0], ["2", 0],
                                  [[2], [0]], [("obj", 2), ("obj", 0)], {0: 2, 1: 0}, {2: 0, 0: 2}, "20", 2,
                                  [10 ** 40, 0], Shapes(), (2,), [2, {}], [2, Shapes()]):
            self.assertIs(names_right(state, sample(), binding), False, binding)
        for binding in STRANGE + ([0], (0,), None, {0: 1}):
            if binding not in ((), []):
                self.assertIs(names_right(state, with_part(sample(), names=[]), binding), False)
        self.assertIs(names_right(state_at(0, objects=[(None, ())]), sample(), [0, 1]), False)

    def test_shapes(self):
        version = sample()
        rows = (
            (1, ("n", ("f", "g")), True), (1, ("n", ("g", "f")), False), (1, ("n", ("f",)), False),
            (1, ("o", ("f", "g")), False), (1, (None, ("f", "g")), False), (1, ("n", ("f", "g", "h")), False),
            (2, (None, ("f", "g")), True), (2, ("n", ("f", "g")), False), (2, (None, ()), False),
            (0, ("n", ("f",)), True), (0, ("n", ()), False), (3, ("o", ()), True), (3, ("n", ()), False),
            (3, (None, ()), False), (4, (None, ()), True), (4, ("o", ()), False),
        )
        for number, shape, told in rows:
            self.assertIs(has_shape(version, BINDING, OBJECTS, number, shape), told, (number, shape))
            self.assertIs(has_shape(version, tuple(BINDING), tuple(OBJECTS), number, shape), told)
        # Another binding: n is object 0, o is object 2.
        self.assertIs(has_shape(version, [0, 2], OBJECTS, 1, ("o", ("f", "g"))), True)
        self.assertIs(has_shape(version, [0, 2], OBJECTS, 1, ("n", ("f", "g"))), False)
        self.assertIs(has_shape(version, [0, 2], OBJECTS, 3, ("n", ())), True)


class Frames(PointTest):
    def test_frames_of_points(self):
        registers = [("err", "q" + str(q)) for q in range(10)]
        frames = [frame_at(PROGRAM, sample(), BINDING, k, registers) for k in range(5)]
        q = registers
        self.assertEqual(frames, [
            ("main", 0, (q[0], q[1], NONE, NONE)), ("main", 3, (q[0], q[1], q[2], NONE)),
            ("main", 5, (q[0], q[1], q[2], NONE)), ("main", 2, (q[0], ("fun", "f"), NONE, NONE)),
            ("main", 7, (NONE, NONE, NONE, q[3])),
        ])
        self.assertEqual(frame_at(PROGRAM, sample(), BINDING, 0, tuple(registers)), frames[0])
        places = ((0, ("reg", 9)), (1, ("name", "o")))
        version = Version("main", ["n", "o"], [], 10, sample().rows(), [(2, (), places)])
        self.assertEqual(frame_at(PROGRAM, version, BINDING, 0, registers), ("main", 2, (q[9], ("obj", 0), NONE, NONE)))
        self.assertEqual(frame_at(PROGRAM, version, [3, 1], 0, registers), ("main", 2, (q[9], ("obj", 1), NONE, NONE)))

    def test_told_frames(self):
        registers = [("err", "q" + str(q)) for q in range(10)]
        q = registers

        def told(an_end):
            return told_frames(PROGRAM, sample(), BINDING, an_end, registers)

        self.assertEqual(told(end(3, 2)), [("main", 2, (q[0], q[1], NONE, NONE))])
        self.assertEqual(told(INNER_END), [("main", 2, (q[0], q[1], NONE, NONE)), ("f", 1, (q[1], NONE, NONE))])
        self.assertEqual(told(DEEP_END), [("main", 2, (q[0], q[1], NONE, NONE)), ("f", 0, (("obj", 0), NONE, NONE)),
                                          ("f", 2, (num(7), NONE, NONE))])
        self.assertEqual(told((0, (("main", 8, ()),))), [("main", 8, (NONE,) * 4)])
        told(INNER_END).clear()
        self.assertEqual(len(told(INNER_END)), 2)

    def test_what_is_handed_in_stays(self):
        registers, binding = [NONE] * 10, [2, 0]
        frame_at(PROGRAM, sample(), binding, 0, registers)
        told_frames(PROGRAM, sample(), binding, INNER_END, registers)
        self.assertEqual((registers, binding), ([NONE] * 10, [2, 0]))

    def test_numbers_of_no_point(self):
        for k in NO_POINTS:
            self.unknown(k, frame_at, PROGRAM, sample(), BINDING, k, [NONE] * 10)
            self.unknown(k, fits_point, state_at(1), sample(), BINDING, k)
            self.unknown(k, entered, state_at(1), sample(), BINDING, k)


def guarded(*facts, places=((0, ("reg", 4)), (1, ("reg", 2)))):
    """A version with one point at row 2 of main."""
    return Version("main", ["n", "o"], [], 6, [("point", 0), ("stop", end(0, 2))], [(2, facts, places)])


class Fitting(PointTest):
    def fit(self, state, version, told=True, k=0, binding=tuple(BINDING)):
        for given in (list(binding), binding):
            self.assertIs(fits_point(state, version, given, k), told)

    def test_function_and_row(self):
        self.fit(state_at(2, YES, NO), guarded())
        for row in (0, 1, 3, 4, 6, 9):
            self.fit(state_at(row, YES, NO), guarded(), False)
        version = with_part(guarded(), function="f", points=[(2, (), ((0, ("reg", 4)),))])
        self.fit(state_at(2, YES, function="f"), version)
        self.fit(state_at(2, YES), version, False)
        self.fit(state_at(1, YES, function="f"), version, False)
        # Only the innermost frame counts.
        frames = [("main", 2, (NONE,) * 4), ("f", 0, (NONE,) * 3)]
        state = State(PROGRAM, BOOK, frames, OBJECTS, {}, [])
        self.fit(state, guarded(), False)
        self.fit(state, with_part(version, points=[(0, (), ((0, ("reg", 4)),))]))

    def test_places_that_are_values_and_names(self):
        valued = guarded(places=((0, ("value", num(1))), (1, ("reg", 2))))
        named = guarded(places=((0, ("reg", 4)), (1, ("name", "o"))))
        self.fit(state_at(2, num(1), NO), valued)
        for value in (num(2), NONE, ("tok", "col", 1), ("obj", 1)):
            self.fit(state_at(2, value, NO), valued, False)
        self.fit(state_at(2, NONE, ("obj", 0)), named)
        self.fit(state_at(2, NONE, ("obj", 2)), named, False)
        self.fit(state_at(2, NONE, num(0)), named, False)
        self.fit(state_at(2, NONE, ("obj", 2)), named, binding=(0, 2))
        # Registers that are not live may have any value.
        self.fit(state_at(2, num(1), NO, YES, ("obj", 0)), valued)

    def test_facts(self):
        # The quick registers: 4 is a, 2 is b, the others are none, whatever the plain registers of these numbers are.
        rows = (
            ((("kind", 4, "num"),), num(1), NONE, True), ((("kind", 4, "num"),), NO, num(1), False),
            ((("is", 2, YES),), NO, YES, True), ((("is", 2, YES),), YES, NO, False),
            ((("is", 4, ("name", "n")),), ("obj", 2), NONE, True), ((("is", 4, ("name", "n")),), ("obj", 0), NONE, False),
            ((("shape", 4, SHAPE),), ("obj", 1), NONE, True), ((("shape", 4, SHAPE),), ("obj", 2), NONE, False),
            ((("same", 2, 4),), num(1), num(1), True), ((("same", 2, 4),), num(1), num(2), False),
            ((("unlike", 2, 4),), num(1), num(2), True), ((("unlike", 2, 4),), num(1), num(1), False),
            ((("kind", 4, "num"), ("kind", 2, "bit")), num(1), YES, True),
            ((("kind", 4, "num"), ("kind", 2, "bit")), num(1), NONE, False),
            ((("kind", 4, "num"), ("kind", 2, "bit")), NONE, YES, False),
        )
        for facts, a, b, told in rows:
            self.fit(state_at(2, a, b), guarded(*facts), told)

    def test_watched_facts_do_not_count(self):
        self.fit(state_at(2, YES, NO), with_part(guarded(), watched=[("global", "g", NONE)]))

    def test_entering(self):
        state = state_at(2, YES, ("obj", 3), NO, NO)
        told = entered(state, guarded(), BINDING, 0)
        self.assertEqual(told, [NONE, NONE, ("obj", 3), NONE, YES, NONE])
        self.assertIsInstance(told, list)
        told.clear()
        self.assertEqual(len(entered(state, guarded(), BINDING, 0)), 6)
        frames = [("main", 2, (NO,) * 4), ("main", 2, (YES, ("obj", 3), NO, NO))]
        self.assertEqual(entered(State(PROGRAM, BOOK, frames, OBJECTS, {}, []), guarded(), BINDING, 0),
                         [NONE, NONE, ("obj", 3), NONE, YES, NONE])
        version = guarded(places=((0, ("value", YES)), (1, ("reg", 0))))
        self.assertEqual(entered(state, version, BINDING, 0), [("obj", 3)] + [NONE] * 5)
        version = guarded(places=((0, ("value", YES)), (1, ("name", "o"))))
        self.assertEqual(entered(state_at(2, YES, ("obj", 0)), version, BINDING, 0), [NONE] * 6)
        self.assertEqual(entered(state_at(7, YES, YES, NO, num(1)), sample(), BINDING, 4), [NONE] * 3 + [num(1)] + [NONE] * 6)

    def test_slow_versions_fit_everywhere(self):
        """Each frame fits its point in a slow version, and the frame of the point has the live registers."""
        program = Program(ground(), Maker(8).lively_functions())
        versions = {function: slow_version(program, function) for function in program.names()}
        state = start(program, BOOK, "main", [])
        while state.end() is None:
            function, row, registers = state.frames()[-1]
            version = versions[function]
            for k in range(len(version.points())):
                self.assertIs(fits_point(state, version, [], k), k == row)
            quick = entered(state, version, [], row)
            live = [r for r, _ in version.point(row)[2]]
            told = frame_at(program, version, [], row, quick)
            self.assertEqual(told[:2], (function, row))
            expected = [value if r in live else NONE for r, value in enumerate(registers)]
            self.assertEqual(told[2], tuple(expected))
            state = step(state)


if __name__ == "__main__":
    unittest.main()
