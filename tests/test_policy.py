"""Drivers (S10.9 to S10.11); shapeguess/policy.py."""

import random
import unittest

from enginetools import Guessing
from pieces import Piece
from samples import NONE, YES, Maker, ground, ground_book, num, program_of
from shapeguess.alike import alike
from shapeguess.choices import can_do
from shapeguess.engine import Engine
from shapeguess.errors import BadChoice, NoVersion, StuckRow, TooLong
from shapeguess.policy import Driver
from shapeguess.quick import Version
from shapeguess.shapes import Shapes
from shapeguess.slow import slow
from shapeguess.special import gone_on
from shapeguess.states import start
from shapeguess.steps import run
from shapeguess.trees import Program
from slowversion import with_part

BOOK = ground_book()
# f is called again and again; each time it reads the field of an object of another shape.
TEXT = (
    "fun main(a) {let o = new(none); o.g = a; o.h = #num:1; show call &f(o); o.i = a; show call &f(o); let p = new(o); show call &f(p); "
    "drop o.i; show call &f(o); show call &f(p); return a;} fun f(x) {let y = x.h; return y;}"
)
PROGRAM = program_of(TEXT)


class Asked:
    """A maker that keeps what it was asked, and returns what a function tells."""

    def __init__(self, told):
        self.told = told
        self.calls = []

    def make(self, engine, function):
        self.calls.append((engine, function))
        return self.told(engine, function)


def slow_of(engine, function):
    return slow(engine.rebuilt().program(), function), ()


def nothing(engine, function):
    return None


class DriverTest(unittest.TestCase):
    def engine(self, program=PROGRAM, arguments=(YES,), most=2):
        return Engine(start(program, BOOK, "main", list(arguments)), most)

    def driver(self, warm, backs, told, engine=None):
        engine = engine or self.engine()
        self.asked = Asked(told)
        return Driver(engine, warm, backs, self.asked.make)

    def choices_until(self, driver, word, most=300):
        """The choices up to the first one with this word."""
        made = []
        for _ in range(most):
            made.append(driver.go())
            if made[-1][0] == word:
                return made
        self.fail(word)


class Steps(DriverTest):
    def test_a_maker_that_makes_nothing(self):
        driver = self.driver(1, 0, nothing)
        plain, steps = run(start(PROGRAM, BOOK, "main", [YES]), 500)
        self.assertEqual(driver.run(500), [("step",)] * steps)
        self.assertEqual(driver.engine().rebuilt(), plain)
        self.assertEqual(driver.own(), [])

    def test_when_the_maker_is_called(self):
        """Only in a plain frame at row 0, when the cells of the function rose enough; each time anew."""
        calls = []
        for warm in (1, 2, 3, 9):
            driver = self.driver(warm, 0, nothing)
            expected = []
            while driver.engine().end() is None:
                engine = driver.engine()
                frame = engine.frames()[-1]
                if frame[2] == 0 and engine.rises(frame[1]) >= warm:
                    expected.append((engine, frame[1]))
                many = len(self.asked.calls)
                self.assertEqual(driver.go(), ("step",))
                self.assertLessEqual(len(self.asked.calls), many + 1)
                self.assertEqual(self.asked.calls, expected)
            calls.append([name for _, name in expected])
        # f is called five times, and its cell learns at the first three calls.
        self.assertEqual(calls, [["f"] * 4, ["f"] * 3, ["f"] * 2, []])

    def test_the_maker_gets_a_twin(self):
        def spoiling(engine, function):
            while engine.end() is None:
                engine.do(("step",))
            return None

        driver = self.driver(1, 0, spoiling)
        other = self.driver(1, 0, nothing)
        self.assertEqual(driver.run(500), other.run(500))
        self.assertEqual(driver.engine(), other.engine())

    def test_rises_from_before_do_not_count(self):
        engine = self.engine()
        while engine.rises("f") < 2:
            engine.do(("step",))
        for warm, calls in ((1, True), (5, False)):
            driver = self.driver(warm, 0, nothing, engine)
            driver.run(500)
            names = [name for _, name in self.asked.calls]
            self.assertEqual("f" in names, calls)
            for twin, name in self.asked.calls:
                self.assertGreaterEqual(twin.rises(name), engine.rises(name) + warm)

    def test_the_engine_that_was_handed_in_stays(self):
        engine = self.engine()
        kept = engine.twin()
        driver = self.driver(1, 0, slow_of, engine)
        driver.run(500)
        self.assertEqual(engine, kept)
        engine.do(("step",))
        self.assertEqual(driver.engine().steps(), run(start(PROGRAM, BOOK, "main", [YES]), 500)[1])

    def test_twins_of_the_engine(self):
        driver = self.driver(1, 0, nothing)
        driver.engine().do(("step",))
        self.assertEqual(driver.engine(), self.engine())
        driver.go()
        self.assertEqual(driver.engine().log(), [("step", 1, ())])


class PuttingAndEntering(DriverTest):
    def test_put_enter_step(self):
        driver = self.driver(1, 9, slow_of)
        made = self.choices_until(driver, "put")
        version = slow(PROGRAM, "f")
        self.assertEqual(made[-1], ("put", version, ()))
        self.assertEqual(made[:-1], [("step",)] * (len(made) - 1))
        self.assertEqual(driver.engine().frames()[-1], ("plain", "f", 0))
        self.assertEqual(driver.own(), [0])
        self.assertEqual(driver.goings_back(0), 0)
        self.assertEqual([driver.go() for _ in range(4)], [("enter", 0, 0), ("step",), ("step",), ("step",)])
        # The second time it is entered at once.
        made = self.choices_until(driver, "enter")
        self.assertNotIn("put", [choice[0] for choice in made])
        self.assertEqual(driver.engine().frames()[-1], ("point", 0, 0))

    def test_put_again_when_the_cells_rose_again(self):
        """In the version no cell learns; so the maker is called again only where the function runs in plain rows."""
        back = Piece(TEXT, "f")
        stop = Version("f", [], [], 3, [("point", 0), ("stop", back.end(0, 0))], [(0, (), back.places(0))])
        driver = self.driver(1, 0, lambda engine, function: (stop, ()) if function == "f" else None)
        driver.run(500)
        log = [entry[0] for entry in driver.engine().log()]
        self.assertEqual(log.count("put"), len(driver.own()))
        self.assertGreater(len(driver.own()), 1)
        rises = [engine.rises("f") for engine, name in self.asked.calls if name == "f"]
        self.assertEqual(rises, sorted(set(rises)))

    def test_the_greatest_version_and_the_least_point(self):
        text = ("fun main(a) {let o = new(none); let p = new(none); p.h = a; o.g = a; o.h = a; show call &f(o, #num:1); show call &f(p, #num:1); "
                "show call &f(p, #num:1); return call &f(o, yes);} fun f(x, y) {let z = x.h; show y; return z;}")
        piece = Piece(text, "f")
        facts = [(1, (("kind", 1, "bit"),)), (0, (("kind", 1, "num"), ("kind", 0, "num"))), (0, (("kind", 1, "bit"),)),
                 (0, (("kind", 1, "bit"),))]
        rows = [row for k, (at, _) in enumerate(facts) for row in (("point", k), ("stop", piece.end(0, at)))]
        version = Version("f", [], [], 4, rows, [(at, told, piece.places(at)) for at, told in facts])
        driver = self.driver(1, 5, lambda engine, function: (version, ()) if function == "f" else None,
                             self.engine(piece.program))
        # While the second argument is a number, no point fits at row 0, and the cell of the get learns two shapes.
        made = self.choices_until(driver, "enter")
        self.assertEqual(made.count(("put", version, ())), 2)
        self.assertEqual(made[-1], ("enter", 1, 2))
        self.assertEqual(driver.engine().frames()[-1], ("point", 1, 2))

    def test_rules_in_turn(self):
        """A version is thrown away ahead of entering, which is ahead of putting in, which is ahead of a step."""
        back = Piece(TEXT, "f")
        stop = Version("f", [], [], 3, [("point", 0), ("stop", back.end(0, 0))], [(0, (), back.places(0))])
        for backs in (0, 1, 2):
            driver = self.driver(1, backs, lambda engine, function: (stop, ()) if function == "f" else None)
            made = self.choices_until(driver, "put")
            for count in range(backs + 1):
                self.assertEqual(driver.go(), ("enter", 0, 0))
                self.assertEqual(driver.go(), ("step",))
                self.assertEqual(driver.goings_back(0), count + 1)
                if count < backs:
                    # The frame is plain at row 0 again, and is entered once more.
                    self.assertEqual(driver.engine().frames()[-1], ("plain", "f", 0))
            self.assertEqual(driver.go(), ("throw", 0))
            self.assertEqual(driver.engine().log()[-1], ("throw", 0, (0,)))
            self.assertEqual(driver.go(), ("step",))
            self.assertEqual(driver.own(), [0])
            self.assertEqual(driver.goings_back(0), backs + 1)
            self.assertEqual(made.count(("step",)), len(made) - 1)

    def test_versions_of_others(self):
        """Versions that were in already are no own ones: they are neither entered nor thrown away."""
        engine = self.engine()
        back = Piece(TEXT, "f")
        stop = Version("f", [], [], 3, [("point", 0), ("stop", back.end(0, 0))], [(0, (), back.places(0))])
        engine.do(("put", stop, ()))
        engine.do(("put", slow(PROGRAM, "main"), ()))
        driver = self.driver(1, 0, slow_of, engine)
        made = self.choices_until(driver, "put")
        self.assertEqual({choice[0] for choice in made}, {"step", "put"})
        self.assertEqual(driver.own(), [2])
        self.assertEqual(driver.go(), ("enter", 2, 0))
        for v in (0, 1, 3, -1, True, False, None, "2", [2], (2,), 10 ** 40, Shapes()):
            with self.assertRaises(NoVersion) as caught:
                driver.goings_back(v)
            self.assertIs(caught.exception.number, v)
        self.assertEqual(driver.goings_back(2), 0)

    def test_goings_back_of_versions_of_others(self):
        """The engine begins in a version that is not the driver's own, goes back from it, and calls in it."""
        piece = Piece(TEXT, "f")
        stop = Version("f", [], [], 3, [("point", 0), ("stop", piece.end(0, 0))], [(0, (), piece.places(0))])
        engine = self.engine()
        while engine.frames()[-1] != ("plain", "f", 0):
            engine.do(("step",))
        engine.do(("put", stop, ()))
        engine.do(("enter", 0, 0))
        driver = self.driver(1, 0, nothing, engine)
        self.assertEqual([driver.go(), driver.go()], [("step",), ("step",)])
        self.assertEqual(driver.engine().log()[-2:], [("step", 0, ()), ("step", 1, ())])
        self.assertEqual(driver.own(), [])

    def test_lesser_versions_where_greater_ones_do_not_fit(self):
        piece = Piece(TEXT, "f")
        made = [Version("f", [], [], 3, [("point", 0), ("stop", piece.end(0, 0))], [(0, facts, piece.places(0))])
                for facts in ((), (("kind", 0, "num"),), (("kind", 0, "col"),))]
        order = [made[1], made[0], made[2]]
        driver = self.driver(1, 9, lambda engine, function: (order.pop(0), ()) if function == "f" and order else None)
        made = self.choices_until(driver, "enter")
        self.assertEqual((made[-1], driver.own()), (("enter", 1, 0), [0, 1]))
        while len(driver.own()) < 3:
            made.append(driver.go())
        self.assertEqual({choice for choice in made if choice[0] == "enter"}, {("enter", 1, 0)})
        while driver.engine().end() is None:
            made.append(driver.go())
        # Behind the third one, which never fits, the second one is still entered, up to its tenth going back.
        self.assertEqual(driver.goings_back(1), 10)
        self.assertIn(("throw", 1), made)

    def test_own_is_new(self):
        driver = self.driver(1, 9, slow_of)
        self.choices_until(driver, "put")
        driver.own().clear()
        self.assertEqual(driver.own(), [0])


class GoingsBack(DriverTest):
    PIECE = Piece("fun main(a) {let o = new(none); o.f = a; o.f = a; show call &f(o); show call &f(o); return a;} "
                  "fun f(x) {let y = x.f; $g = y; let z = call &g(y); return z;} fun g(x) {return x;}")

    def at_f(self, told, arguments=(YES,)):
        """A driver whose engine stands in a plain frame at row 0 of f, where it put a version in and entered it."""
        engine = self.engine(self.PIECE.program, arguments)
        driver = self.driver(1, 5, told, engine)
        self.choices_until(driver, "put")
        self.assertEqual(driver.go()[0], "enter")
        return driver

    def test_links_calls_and_returns_are_none(self):
        driver = self.at_f(lambda engine, function: slow_of(engine, function) if function == "f" else None)
        words = {}
        while driver.engine().end() is None:
            frame = driver.engine().frames()[-1]
            if driver.go() == ("step",) and frame[0] == "point" and driver.engine().end() is None:
                after = driver.engine().frames()[-1]
                word = "call" if after[:2] == ("plain", "g") else "return" if after[:2] == ("plain", "main") else "link"
                words[word] = words.get(word, 0) + 1
        self.assertEqual(set(words), {"link", "call", "return"})
        self.assertEqual(driver.goings_back(0), 0)

    def test_an_end_into_several_frames(self):
        rest = "fun f(x) {let w = x.f; let y = call &g(x); return y;} fun g(x) {let z = x.f; return z;}"
        piece = Piece("fun main(a) {let o = new(none); o.f = a; show call &f(o); show call &f(o); return a;} " + rest,
                      "f")
        inside = (3, (("f", 2, ()), ("g", 0, ((0, ("reg", 0)),))))
        rows = [("point", 0), ("get", 1, 0, "f", piece.end(0, 0)), ("stop", inside)]
        version = Version("f", [], [], piece.code.registers(), rows, [(0, (), piece.places(0))])
        driver = self.driver(1, 5, lambda engine, function: (version, ()) if function == "f" else None,
                             self.engine(piece.program))
        self.choices_until(driver, "put")
        driver.go()
        self.assertEqual(driver.go(), ("step",))
        self.assertEqual([frame[:2] for frame in driver.engine().frames()],
                         [("plain", "main"), ("plain", "f"), ("plain", "g")])
        self.assertEqual(driver.goings_back(0), 1)

    def test_a_version_that_the_step_itself_throws_away(self):
        text = ("fun main(a) {let o = new(none); o.f = a; show call &f(o); $g = #num:1; show call &f(o); return a;} "
                "fun f(x) {let y = x.f; $g = y; return y;}")
        program = program_of(text)

        def maker(engine, function):
            if function != "f":
                return None
            return with_part(slow(program, "f"), watched=[("global", "g", num(1))]), ()

        driver = self.driver(1, 5, maker, self.engine(program))
        self.choices_until(driver, "put")
        driver.go()
        # The get links to the next point, and the put breaks the watched fact.
        self.assertEqual([driver.go(), driver.go()], [("step",), ("step",)])
        self.assertEqual(driver.engine().log()[-1], ("step", 1, (0,)))
        self.assertEqual(driver.engine().frames()[-1], ("plain", "f", 2))
        self.assertEqual(driver.goings_back(0), 1)
        self.assertEqual(driver.own(), [0])
        # It is not in any more, so that nothing is thrown away.
        self.assertEqual(driver.go(), ("step",))

    def test_a_return_into_a_plain_frame_is_none(self):
        program = program_of("fun main(a) {let o = new(none); o.f = a; show call &f(o); show call &f(o); return a;} fun f(x) {let y = x.f; return y;}")
        piece = Piece("fun main(a) {} fun f(x) {let y = x.f; return y;}", "f")
        whole = gone_on(piece.program, slow(piece.program, "f"), 2)
        driver = self.driver(1, 0, lambda engine, function: (whole, ()) if function == "f" else None,
                             self.engine(program))
        self.choices_until(driver, "put")
        driver.go()
        self.assertEqual(driver.go(), ("step",))
        self.assertEqual(len(driver.engine().frames()), 1)
        self.assertEqual(driver.goings_back(0), 0)


class Errors(DriverTest):
    def test_go_behind_the_end(self):
        driver = self.driver(1, 0, nothing)
        driver.run(500)
        kept = driver.engine()
        with self.assertRaises(BadChoice):
            driver.go()
        self.assertEqual(driver.engine(), kept)
        self.assertEqual(driver.run(0), [])
        self.assertEqual(driver.run(5), [])

    def test_run_at_its_limit(self):
        for told in (nothing, slow_of):
            many = len(self.driver(1, 1, told).run(500))
            driver = self.driver(1, 1, told)
            self.assertEqual(len(driver.run(many)), many)
            driver = self.driver(1, 1, told)
            with self.assertRaises(TooLong) as caught:
                driver.run(many - 1)
            self.assertEqual(caught.exception.limit, many - 1)
            # The choices stay made.
            self.assertEqual(len(driver.engine().log()), many - 1)
            self.assertEqual(len(driver.run(1)), 1)
        driver = self.driver(1, 1, nothing)
        with self.assertRaises(TooLong) as caught:
            driver.run(0)
        self.assertEqual(caught.exception.limit, 0)
        self.assertEqual(driver.engine(), self.engine())

    def test_errors_of_the_maker(self):
        class Refused(Exception):
            pass

        def refusing(engine, function):
            raise Refused()

        driver = self.driver(1, 0, refusing)
        with self.assertRaises(Refused):
            driver.run(500)
        kept = driver.engine()
        self.assertGreater(kept.steps(), 0)
        self.assertEqual(kept.frames()[-1][2], 0)
        with self.assertRaises(Refused):
            driver.go()
        self.assertEqual(driver.engine(), kept)
        self.assertEqual(len(self.asked.calls), 2)

    def test_stuck_rows(self):
        piece = Piece(TEXT, "f")
        rows = [("point", 0), ("const", 1, NONE), ("test", 1, 3), ("stop", piece.end(0, 0))]
        version = Version("f", [], [], 3, rows, [(0, (), piece.places(0))])
        driver = self.driver(1, 0, lambda engine, function: (version, ()) if function == "f" else None)
        with self.assertRaises(StuckRow) as caught:
            driver.run(500)
        self.assertEqual(caught.exception.number, 2)
        self.assertEqual(driver.engine().frames()[-1], ("point", 0, 0))
        kept = driver.engine()
        with self.assertRaises(StuckRow):
            driver.go()
        self.assertEqual(driver.engine(), kept)

    def test_an_engine_with_an_end(self):
        engine = self.engine()
        while engine.end() is None:
            engine.do(("step",))
        driver = self.driver(1, 0, nothing, engine)
        self.assertEqual(driver.engine(), engine)
        with self.assertRaises(BadChoice):
            driver.go()


class Drawn(DriverTest):
    def test_bounds_and_the_rule(self):
        """Each choice is the one of the rule, worked out a second time; and a driver comes to rest."""
        puts = 0
        for seed in range(40):
            draw = random.Random(seed)
            program, arguments = (PROGRAM,
                                  [num(1)]) if seed % 3 == 0 else (Program(ground(), Maker(seed).lively_functions()),
                                                                   [])
            most, warm, backs = draw.randint(1, 3), draw.randint(1, 3), draw.randint(0, 2)
            engine = self.engine(program, arguments, most)
            told = []
            guesses = Guessing(draw, 10)

            def maker(twin, function):
                told.append(guesses.make(twin, function) if draw.random() < 0.8 else None)
                return told[-1]

            driver = self.driver(warm, backs, maker, engine)
            model = Model(driver, warm, backs, told)
            for _ in range(150):
                if driver.engine().end() is not None:
                    break
                before, asked = driver.engine(), len(told)
                choice = driver.go()
                self.assertEqual(choice, model.choice(before, asked))
                model.follow(before, choice, driver.engine())
                self.assertEqual({v: driver.goings_back(v) for v in driver.own()}, model.goings)
            self.bounds(program, engine, driver, most, warm, backs)
            puts += len(driver.own())
        self.assertGreater(puts, 15)

    def bounds(self, program, begin, driver, most, warm, backs):
        engine = driver.engine()
        plain, made = run(start(program, BOOK, "main",
                                begin.rebuilt().frames()[0][2][:len(program.function("main")[1])]), engine.steps())
        self.assertEqual(made, engine.steps())
        self.assertTrue(alike(plain, engine.rebuilt()))
        versions = engine.versions()
        for name in program.names():
            cells = len([place for place in engine.cells() if place[0] == name])
            own = [v for v in driver.own() if versions[v][0].function() == name]
            self.assertLessEqual(len(own), cells * (most + 1) // warm)
        self.assertTrue(all(driver.goings_back(v) <= backs + 1 for v in driver.own()))
        self.assertLessEqual(len(engine.log()), 2 * engine.steps() + 2 * len(driver.own()) * (backs + 2))


class Model:
    """The rule of S10.10, worked out by can_do alone."""

    def __init__(self, driver, warm, backs, told):
        self.warm, self.backs, self.told = warm, backs, told
        self.goings = {}
        engine = driver.engine()
        self.kept = {name: engine.rises(name) for name in engine.rebuilt().program().names()}

    def choice(self, engine, asked):
        for v in sorted(self.goings):
            if self.goings[v] > self.backs and engine.versions()[v][2]:
                return ("throw", v)
        for v in sorted(self.goings)[::-1]:
            for k in range(len(engine.versions()[v][0].points())):
                if can_do(engine, ("enter", v, k)):
                    return ("enter", v, k)
        frame = engine.frames()[-1]
        if frame[0] == "plain" and frame[2] == 0 and engine.rises(frame[1]) >= self.kept[frame[1]] + self.warm:
            assert len(self.told) == asked + 1
            if self.told[-1] is not None:
                return ("put",) + self.told[-1]
        else:
            assert len(self.told) == asked
        return ("step",)

    def follow(self, before, choice, after):
        frames = before.frames()
        if choice[0] == "put":
            self.goings[len(after.versions()) - 1] = 0
            self.kept[choice[1].function()] = after.rises(choice[1].function())
        elif choice[0] == "step" and frames[-1][0] == "point" and frames[-1][1] in self.goings:
            later = after.frames()
            if len(later) >= len(frames) and later[len(frames) - 1][0] == "plain":
                self.goings[frames[-1][1]] += 1


if __name__ == "__main__":
    unittest.main()
