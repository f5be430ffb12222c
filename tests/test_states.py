"""States and look-ups (S3.1, S3.2); shapeguess/states.py."""

import unittest

from samples import NONE, STRANGE, YES, WORD_OF_13, ground, ground_book, num, program_of
from shapeguess.books import Book
from shapeguess.errors import BadState, NoFunction
from shapeguess.signatures import Signature
from shapeguess.states import State, find, start
from shapeguess.steps import run

# The rows of main are: call 2, 1, (0); const 2; return 2. Those of f: method 1, 0, m, (); const 1; return 1.
TEXT = "fun main(a, b) {call b(a);} fun f(x) {x.m();} fun g(x) {}"
PROGRAM = program_of(TEXT)
BOOK = ground_book()
OBJECTS = [
    (None, ()), (0, (("f", num(1)), ("g", ("obj", 3)))), (1, (("f", NONE),)), (4, ()), (None, (("m", ("fun", "far")),)),
]
GLOBALS = {"g": ("obj", 2), "far": YES, "let": ("err", "x")}
SHOWN = [NONE, ("obj", 4), num(2)]
FRAMES = [("main", 0, (NONE, ("fun", "f"), YES)), ("f", 0, (("obj", 2), NONE)), ("g", 1, (NONE, num(0)))]

# Things that are no right values in a state with five objects.
WRONG_VALUES = STRANGE + (
    ("obj", 5), ("obj", 10 ** 40), ("obj", -1), ("obj", True), ("obj", False), ["obj", 0], num(3), ("tok", "col", 2),
    ("tok", "dog", 0), ("tok", "num", False), ["none"], ("bit", True), ("err", "E"), ("fun", WORD_OF_13), ("fun", 0),
    PROGRAM, (PROGRAM,),
)


def made(frames=None, objects=None, told=None, shown=None, program=PROGRAM, book=BOOK):
    return State(
        program, book, FRAMES if frames is None else frames, OBJECTS if objects is None else objects,
        GLOBALS if told is None else told, SHOWN if shown is None else shown,
    )


class StateTest(unittest.TestCase):
    def refused(self, word, **parts):
        with self.assertRaises(BadState) as caught:
            made(**parts)
        self.assertEqual(caught.exception.word, word, parts)


class WrongObjects(StateTest):
    def test_no_list(self):
        for thing in (None, True, 0, "ab", {}, {0: (None, ())}, PROGRAM, "", 7):
            with self.assertRaises(BadState) as caught:
                State(PROGRAM, BOOK, FRAMES, thing, GLOBALS, SHOWN)
            self.assertEqual(caught.exception.word, "objects")

    def test_objects(self):
        wrong = STRANGE + (
            [None, ()], (None,), (None, (), ()), (None, []), (None, None), (None, ""), (None, {}), ((), ()),
            (None, (("f", NONE),), 0), (None, ("f", NONE)), (None, (["f", NONE],)), (None, (("f",),)),
            (None, (("f", NONE, NONE),)), (None, ("fn",)), (None, (None,)), (None, ((),)),
        )
        for thing in wrong:
            for at in (0, 3, 5):
                self.refused("objects", objects=OBJECTS[:at] + [thing] + OBJECTS[at:])

    def test_parents(self):
        for parent in (5, -1, True, False, "0", (), [0], ("obj", 0), 10 ** 40, {}, NONE):
            self.refused("objects", objects=OBJECTS[:3] + [(parent, ())] + OBJECTS[4:])

    def test_names_of_fields(self):
        for word in ("", "F", WORD_OF_13, None, 0, True, ["f"], ("f",), ()):
            self.refused("objects", objects=[(None, (("a", NONE), (word, NONE)))] + OBJECTS[1:])

    def test_equal_fields(self):
        self.refused("objects", objects=[(None, (("f", NONE), ("g", YES), ("f", NONE)))] + OBJECTS[1:])

    def test_values_of_fields(self):
        for thing in WRONG_VALUES:
            self.refused("objects", objects=[(None, (("a", NONE), ("f", thing)))] + OBJECTS[1:])

    def test_what_is_above(self):
        chain = [(None, ()), (0, ()), (1, ()), (2, ())]
        self.refused("objects", objects=chain, told={}, shown=[], frames=FRAMES[:1])
        self.refused("objects", objects=chain[::-1][:1] + chain, told={})
        for ring in ([(0, ())], [(1, ()), (0, ())], [(1, ()), (2, ()), (0, ())], [(None, ()), (2, ()), (1, ())],
                     [(1, ()), (1, ())]):
            self.refused("objects", objects=ring, told={}, shown=[], frames=FRAMES[:1])
        # Three above one through greater numbers.
        self.refused("objects", objects=[(1, ()), (2, ()), (3, ()), (None, ())], told={}, shown=[], frames=FRAMES[:1])

    def test_two_above_through_greater_numbers(self):
        objects = [(1, ()), (2, ()), (None, ())]
        state = made(objects=objects, told={}, shown=[], frames=FRAMES[:1])
        self.assertEqual(state.objects(), objects)


class WrongParts(StateTest):
    def test_globals(self):
        for thing in (None, True, 0, "ab", [], (), [("g", NONE)], (("g", NONE),), PROGRAM):
            with self.assertRaises(BadState) as caught:
                State(PROGRAM, BOOK, FRAMES, OBJECTS, thing, SHOWN)
            self.assertEqual(caught.exception.word, "globals")
        for word in ("", "G", WORD_OF_13, None, 0, True, ("g",), ()):
            self.refused("globals", told={"a": NONE, word: NONE})
        for thing in WRONG_VALUES:
            self.refused("globals", told={"a": NONE, "b": thing})

    def test_shown(self):
        for thing in (None, True, 0, "ab", {}, {0: NONE}, PROGRAM, "", NONE):
            self.refused("shown", shown=thing if thing is not None else 0)
        with self.assertRaises(BadState) as caught:
            State(PROGRAM, BOOK, FRAMES, OBJECTS, GLOBALS, None)
        self.assertEqual(caught.exception.word, "shown")
        for thing in WRONG_VALUES:
            self.refused("shown", shown=[NONE, thing])

    def test_frames(self):
        for thing in (True, 0, "ab", {}, {0: FRAMES[0]}, PROGRAM, "", [], (), FRAMES[2]):
            self.refused("frames", frames=thing)
        with self.assertRaises(BadState) as caught:
            State(PROGRAM, BOOK, None, OBJECTS, GLOBALS, SHOWN)
        self.assertEqual(caught.exception.word, "frames")
        wrong = STRANGE + (
            list(FRAMES[2]), ("g", 1), ("g", 1, (NONE, NONE), 0), ("g", 1, [NONE, NONE]), ("g", 1, None),
            ("g", 1, {}), ("g", 1, "ab"), ("g", 1, {0: NONE, 1: NONE}),
        )
        for thing in wrong:
            self.refused("frames", frames=[thing])
            self.refused("frames", frames=FRAMES[:2] + [thing])
            self.refused("frames", frames=[thing] + FRAMES)

    def test_functions_of_frames(self):
        for word in ("far", "x", "", None, 0, True, ["g"], ("g",), {}, PROGRAM):
            self.refused("frames", frames=[(word, 0, (NONE, NONE))])

    def test_rows_of_frames(self):
        for row in (2, 3, -1, -2, True, False, None, "0", [0], (0,), 10 ** 40):
            self.refused("frames", frames=[("g", row, (NONE, NONE))])
        for row in (0, 1):
            made(frames=[("g", row, (NONE, NONE))])

    def test_registers_of_frames(self):
        for places in ((), (NONE,), (NONE,) * 3):
            self.refused("frames", frames=[("g", 0, places)])
        for thing in WRONG_VALUES:
            for places in ((thing, NONE), (NONE, thing)):
                self.refused("frames", frames=[("g", 0, places)])
                self.refused("frames", frames=FRAMES[:1] + [("f", 0, places), FRAMES[2]])

    def test_waiting_frames(self):
        for row in (1, 2):
            self.refused("frames", frames=[("main", row, FRAMES[0][2])] + FRAMES[1:])
            self.refused("frames", frames=[FRAMES[0], ("f", row, FRAMES[1][2]), FRAMES[2]])
        self.refused("frames", frames=[FRAMES[2], FRAMES[2]])
        # The innermost frame may stand anywhere, and what waits need not have called what is inside it.
        for row in (0, 1, 2):
            made(frames=[FRAMES[1], FRAMES[0], ("main", row, FRAMES[0][2])])

    def test_book(self):
        other = Signature(["num"], {})
        self.refused("book", book=Book(other, {"num": 9}, {}))
        program = program_of("fun main(a, b) {show #num:2; show #col:2;}")
        self.refused("book", program=program)
        # The token counts wherever it stands.
        for text in ("fun f() {} fun g(x) {if x {} else {try {} catch y {call x(x, #num:3);}}}",
                     "fun f(x) {let y = x.m(neg(#num:3)) == x;}"):
            self.refused("book", program=program_of(text))
        big = Book(ground(), {"num": 4, "col": 1}, {
            "addnum": [0] * 16, "paint": [0] * 4, "negnum": [0] * 4, "lessnum": ["no"] * 16,
        })
        State(program_of("fun f() {show #num:3;}"), big, [("f", 0, (NONE,))], [], {}, [])

    def test_book_of_an_equal_signature(self):
        made(book=ground_book(ground()), program=program_of(TEXT))


class Sequence(StateTest):
    def test_the_first_that_applies(self):
        wrong = {
            "book": {"book": Book(Signature([], {}), {}, {})}, "objects": {"objects": [None]},
            "globals": {"told": {"": NONE}}, "shown": {"shown": [0]}, "frames": {"frames": []},
        }
        words = list(wrong)
        for at, word in enumerate(words):
            for later in words[at:]:
                self.refused(word, **wrong[word], **({} if later == word else wrong[later]))

    def test_objects_that_others_need(self):
        # Without objects, globals, shown values and frames that name one are wrong, in this order.
        self.refused("globals", objects=[])
        self.refused("shown", objects=[], told={})
        self.refused("frames", objects=[], told={}, shown=[])


class Parts(StateTest):
    def test_parts(self):
        state = made()
        self.assertEqual(state.program(), PROGRAM)
        self.assertEqual(state.book(), BOOK)
        self.assertEqual(state.frames(), FRAMES)
        self.assertEqual(state.objects(), OBJECTS)
        self.assertEqual(state.global_values(), GLOBALS)
        self.assertEqual(state.shown(), SHOWN)
        self.assertIsNone(state.end())
        for told in (state.frames(), state.objects(), state.shown()):
            self.assertIsInstance(told, list)
        self.assertIsInstance(state.global_values(), dict)

    def test_names_that_the_program_does_not_have(self):
        objects = [(None, (("faraway", ("fun", "nowhere")),))]
        told = {"unheard": ("err", "unknown")}
        state = made(objects=objects, told=told, shown=[("fun", "nowhere")], frames=FRAMES[:1])
        self.assertEqual((state.objects(), state.global_values()), (objects, told))

    def test_tuples_for_lists(self):
        self.assertEqual(made(frames=tuple(FRAMES), objects=tuple(OBJECTS), shown=tuple(SHOWN)), made())

    def test_nothing_is_kept_and_what_is_told_is_new(self):
        frames, objects, told, shown = list(FRAMES), list(OBJECTS), dict(GLOBALS), list(SHOWN)
        state = made(frames, objects, told, shown)
        frames.clear()
        objects.clear()
        told.clear()
        shown.clear()
        state.frames().clear()
        state.objects().clear()
        state.global_values().clear()
        state.shown().clear()
        self.assertEqual(state, made())
        self.assertEqual((state.frames(), state.objects()), (FRAMES, OBJECTS))
        self.assertEqual((state.global_values(), state.shown()), (GLOBALS, SHOWN))

    def test_nothing_passed_is_modified(self):
        frames, objects, told, shown = list(FRAMES), list(OBJECTS), dict(GLOBALS), list(SHOWN)
        made(frames, objects, told, shown)
        self.assertEqual((frames, objects, told, shown), (FRAMES, OBJECTS, GLOBALS, SHOWN))


class Equality(StateTest):
    def test_equal(self):
        self.assertTrue(made() == made())
        self.assertFalse(made() != made())
        self.assertEqual(made(), made(program=program_of(TEXT), book=ground_book()))

    def test_globals_in_any_order(self):
        self.assertEqual(made(), made(told={g: GLOBALS[g] for g in reversed(list(GLOBALS))}))

    def test_part_by_part(self):
        others = (
            made(frames=FRAMES[:2]), made(frames=FRAMES[:2] + [("g", 0, (NONE, num(0)))]),
            made(frames=FRAMES[:2] + [("g", 1, (NONE, num(1)))]), made(frames=[FRAMES[0], FRAMES[0], FRAMES[2]]),
            made(objects=OBJECTS + [(None, ())]), made(objects=[(None, (("f", NONE),))] + OBJECTS[1:]),
            made(objects=OBJECTS[:3] + [(0, ())] + OBJECTS[4:]),
            made(objects=[OBJECTS[0], (0, OBJECTS[1][1][::-1])] + OBJECTS[2:]),
            made(told={**GLOBALS, "h": NONE}), made(told={**GLOBALS, "g": NONE}), made(told={}),
            made(shown=SHOWN[::-1]), made(shown=SHOWN[:2]), made(shown=SHOWN + [NONE]),
            made(program=program_of(TEXT + " fun h() {}")),
            made(book=Book(ground(), {"num": 3, "col": 2}, {
                **{name: BOOK.table(name) for name in ("addnum", "paint", "lessnum")}, "negnum": [0, 1, 2],
            })),
            run(made(frames=FRAMES[2:]), 9)[0],
        )
        for other in others:
            self.assertTrue(made() != other)
            self.assertFalse(made() == other)

    def test_ends(self):
        program = program_of("fun f(x) {return x;} fun g(x) {throw x;}")
        ends = [run(start(program, BOOK, word, [value]), 9)[0] for word in "fg" for value in (NONE, YES)]
        for at, one in enumerate(ends):
            for to, other in enumerate(ends):
                self.assertEqual(one == other, at == to)
            self.assertTrue(one == run(one, 0)[0])

    def test_unequal_to_everything_else(self):
        for thing in STRANGE + (PROGRAM, BOOK, FRAMES):
            self.assertIs(made() == thing, False)
            self.assertIs(thing == made(), False)


class Find(StateTest):
    def test_find(self):
        state = made()
        self.assertEqual(find(state, 1, "f"), (1, num(1)))
        self.assertEqual(find(state, 1, "g"), (1, ("obj", 3)))
        self.assertEqual(find(state, 4, "m"), (4, ("fun", "far")))

    def test_through_parents(self):
        state = made()
        self.assertEqual(find(state, 2, "f"), (2, NONE))
        self.assertEqual(find(state, 2, "g"), (1, ("obj", 3)))
        self.assertEqual(find(state, 3, "m"), (4, ("fun", "far")))
        objects = [(None, (("f", YES), ("g", NONE))), (0, (("g", YES),)), (1, ())]
        state = made(objects=objects, told={}, shown=[], frames=FRAMES[:1])
        self.assertEqual(find(state, 2, "f"), (0, YES))
        self.assertEqual(find(state, 2, "g"), (1, YES))

    def test_nothing_found(self):
        state = made()
        for number, field in ((0, "f"), (1, "m"), (2, "m"), (3, "f"), (4, "f"), (1, "faraway")):
            self.assertIsNone(find(state, number, field))

    def test_no_object(self):
        state = made()
        for thing in (None, True, False, -1, 5, 10 ** 40, "0", "", (), [], {}, ("obj", 0), (0,), state):
            with self.assertRaises(BadState) as caught:
                find(state, thing, "f")
            self.assertEqual(caught.exception.word, "objects")

    def test_where_the_state_has_an_end(self):
        state = run(made(frames=FRAMES[2:]), 9)[0]
        self.assertIsNotNone(state.end())
        self.assertEqual(find(state, 1, "f"), (1, num(1)))


class Start(StateTest):
    def test_start(self):
        state = start(PROGRAM, BOOK, "main", [num(1), ("fun", "far")])
        self.assertEqual(state.frames(), [("main", 0, (num(1), ("fun", "far"), NONE))])
        self.assertEqual((state.objects(), state.global_values(), state.shown()), ([], {}, []))
        self.assertIsNone(state.end())
        self.assertEqual(state, State(PROGRAM, BOOK, state.frames(), [], {}, []))
        self.assertEqual(start(PROGRAM, BOOK, "main", (num(1), ("fun", "far"))), state)

    def test_no_function(self):
        for thing in STRANGE + ("far", "a", ("main",), PROGRAM):
            with self.assertRaises(NoFunction) as caught:
                start(PROGRAM, BOOK, thing, [NONE, NONE])
            self.assertIs(caught.exception.name, thing)

    def refused_start(self, word, program, book, arguments):
        with self.assertRaises(BadState) as caught:
            start(program, book, "main", arguments)
        self.assertEqual(caught.exception.word, word)

    def test_book(self):
        self.refused_start("book", PROGRAM, Book(Signature([], {}), {}, {}), [NONE, NONE])
        self.refused_start("book", program_of("fun main(a, b) {show #num:3;}"), BOOK, [NONE, NONE])

    def test_arguments(self):
        for thing in (None, True, 2, "ab", {}, {0: NONE, 1: NONE}, PROGRAM, [], [NONE], [NONE] * 3, (NONE,), ()):
            self.refused_start("frames", PROGRAM, BOOK, thing)
        for thing in WRONG_VALUES + (("obj", 0),):
            self.refused_start("frames", PROGRAM, BOOK, [NONE, thing])
            self.refused_start("frames", PROGRAM, BOOK, [thing, NONE])

    def test_sequence(self):
        bad = Book(Signature([], {}), {}, {})
        with self.assertRaises(NoFunction):
            start(PROGRAM, bad, "far", None)
        self.refused_start("book", PROGRAM, bad, None)

    def test_nothing_is_kept(self):
        arguments = [NONE, YES]
        state = start(PROGRAM, BOOK, "main", arguments)
        arguments[0] = YES
        self.assertEqual(state.frames(), [("main", 0, (NONE, YES, NONE))])


if __name__ == "__main__":
    unittest.main()
