"""Live and waiting registers, and their papers (S2.7, S2.8); shapeguess/live.py."""

import unittest

from samples import NONE, STRANGE, Maker, ground, program_of
from shapeguess.compiling import Code, compiled
from shapeguess.errors import UnknownName
from shapeguess.live import judge_live, live_at, live_paper, waiting_at
from shapeguess.trees import Program

END = ("return", 9)
# Each kind of row: what it reads and what it writes.
ROWS = (
    (("const", 0, NONE), [], 0), (("move", 0, 1), [1], 0), (("move", 0, 0), [0], 0), (("global", 0, "g"), [], 0),
    (("put", "g", 1), [1], None), (("get", 0, 1, "f"), [1], 0), (("get", 0, 0, "f"), [0], 0),
    (("set", 1, "f", 2), [1, 2], None), (("set", 1, "f", 1), [1], None), (("drop", 1, "f"), [1], None),
    (("new", 0, 1), [1], 0), (("prim", 0, "p", (1,)), [1], 0), (("prim", 0, "p", (2, 0)), [0, 2], 0),
    (("same", 0, 1, 2), [1, 2], 0), (("call", 0, 1, ()), [1], 0), (("call", 0, 1, (3, 2, 0)), [0, 1, 2, 3], 0),
    (("method", 0, 1, "m", ()), [1], 0), (("method", 0, 1, "m", (3, 3)), [1, 3], 0), (("show", 1), [1], None),
)


def codes_of_random_programs(seeds):
    return [code for seed in seeds for code in compiled(Program(ground(), Maker(seed).functions())).values()]


def reads(row):
    if row[0] in ("prim", "call", "method"):
        return ([row[2]] if row[0] != "prim" else []) + list(row[-1])
    at = {"const": [], "global": [], "move": [2], "put": [2], "get": [2], "set": [1, 3], "drop": [1], "new": [2],
          "same": [2, 3], "test": [1], "show": [1], "return": [1], "throw": [1], "jump": []}[row[0]]
    return [row[k] for k in at]


def steps(code, number):
    """The steps from a row as pairs (row, written register), written down once more from S2.7."""
    row = code.row(number)
    writes = row[1] if row[0] in "const move global get new prim same call method".split() else None
    if row[0] == "jump":
        found = [(row[1], None)]
    elif row[0] == "test":
        found = [(number + 1, None), (row[2], None)]
    elif row[0] in ("return", "throw"):
        found = []
    else:
        found = [(number + 1, writes)]
    covering = [stretch for stretch in code.stretches() if stretch[0] <= number < stretch[1]]
    return found + [(stretch[2], stretch[3]) for stretch in covering[:1]]


def is_live(code, number, place):
    """Whether a register is live at a row, by going all ways."""
    seen = []
    todo = [number]
    while todo:
        row = todo.pop()
        if row in seen:
            continue
        seen.append(row)
        if place in reads(code.row(row)):
            return True
        todo += [to for to, written in steps(code, row) if written != place]
    return False


class Live(unittest.TestCase):
    def test_each_kind_of_row(self):
        for row, read, written in ROWS:
            # Behind the row the registers 0 and 4 are live.
            code = Code(0, 10, [row, ("show", 0), ("show", 4), END], [])
            behind = {0, 4, 9} - {written}
            self.assertEqual(waiting_at(code, 0), sorted(behind), row)
            self.assertEqual(live_at(code, 0), sorted(behind | set(read)), row)

    def test_rows_without_a_next_row(self):
        for word in ("return", "throw"):
            code = Code(0, 10, [(word, 3), ("show", 4), END], [])
            self.assertEqual((live_at(code, 0), waiting_at(code, 0)), ([3], []))

    def test_jump_leads_to_its_target_alone(self):
        code = Code(0, 10, [("jump", 2), ("show", 1), ("show", 2), END], [])
        self.assertEqual((live_at(code, 0), waiting_at(code, 0)), ([2, 9], [2, 9]))
        code = Code(0, 10, [("show", 1), ("jump", 0), END], [])
        self.assertEqual((live_at(code, 1), waiting_at(code, 0)), ([1], [1]))

    def test_test_leads_to_two_rows(self):
        code = Code(0, 10, [("test", 0, 3), ("show", 1), ("return", 2), ("show", 3), END], [])
        self.assertEqual((live_at(code, 0), waiting_at(code, 0)), ([0, 1, 2, 3, 9], [1, 2, 3, 9]))

    def test_test_whose_two_steps_are_one_row(self):
        code = Code(0, 10, [("test", 0, 1), ("show", 1), END], [])
        self.assertEqual((live_at(code, 0), waiting_at(code, 0)), ([0, 1, 9], [1, 9]))

    def test_a_row_that_reads_and_writes_reads_first(self):
        code = Code(0, 1, [("get", 0, 0, "f"), ("const", 0, NONE), ("return", 0)], [])
        self.assertEqual([live_at(code, k) for k in range(3)], [[0], [], [0]])
        self.assertEqual([waiting_at(code, k) for k in range(3)], [[], [], []])

    def test_loops(self):
        code = Code(0, 4, [("test", 0, 4), ("move", 0, 1), ("move", 1, 2), ("jump", 0), ("return", 3)], [])
        self.assertEqual([live_at(code, k) for k in range(5)], [[0, 1, 2, 3], [1, 2, 3], [0, 2, 3], [0, 1, 2, 3], [3]])

    def test_handlers(self):
        # The row 0 is covered: its handler reads 2, which the stretch does not write, and 3, which it does.
        rows = [("const", 0, NONE), ("return", 0), ("show", 2), ("show", 3), ("return", 0)]
        code = Code(0, 4, rows, [(0, 1, 2, 3)])
        # On the step to the handler the row does not write its own register 0.
        self.assertEqual((live_at(code, 0), waiting_at(code, 0)), ([0, 2], [0, 2]))
        self.assertEqual(live_at(code, 1), [0])
        self.assertEqual(live_at(code, 2), [0, 2, 3])

    def test_stretches_over_every_kind_of_row(self):
        others = (("return", 1), ("throw", 1), ("jump", 1), ("test", 1, 1))
        for row in [row for row, _, _ in ROWS] + list(others):
            rows = [row, ("const", 7, NONE), ("return", 7), ("show", 8), ("return", 6)]
            code = Code(0, 10, rows, [(0, 1, 3, 6)])
            self.assertEqual(waiting_at(code, 0), [8], row)
            self.assertEqual(live_at(code, 0), sorted(set(reads(row) + [8])), row)
            # The row behind the end of the stretch is not covered.
            self.assertEqual(live_at(code, 1), [])

    def test_the_first_stretch_applies(self):
        rows = [("const", 0, NONE), ("return", 0), ("return", 1), ("return", 2)]
        self.assertEqual(live_at(Code(0, 4, rows, [(0, 1, 2, 3), (0, 1, 3, 3)]), 0), [1])
        self.assertEqual(live_at(Code(0, 4, rows, [(0, 1, 3, 3), (0, 1, 2, 3)]), 0), [2])
        self.assertEqual(live_at(Code(0, 4, rows, [(0, 1, 2, 3), (0, 2, 3, 3)]), 0), [1, 2])
        self.assertEqual(live_at(Code(0, 4, rows, [(0, 2, 3, 3), (0, 1, 2, 3)]), 1), [0, 2])

    def test_next_row_is_the_handler(self):
        # The step to the next row writes 0, the step to the handler, the same row, writes 1.
        code = Code(0, 4, [("const", 0, NONE), ("same", 2, 0, 1), ("return", 3)], [(0, 1, 1, 1)])
        self.assertEqual((live_at(code, 0), waiting_at(code, 0)), ([0, 1, 3], [0, 1, 3]))
        code = Code(0, 4, [("const", 0, NONE), ("return", 0)], [(0, 1, 1, 0)])
        self.assertEqual(live_at(code, 0), [])

    def test_a_handler_that_covers_itself(self):
        code = Code(0, 3, [("show", 0), ("jump", 1), ("return", 1)], [(0, 2, 0, 1)])
        self.assertEqual(live_at(code, 0), [0])
        code = Code(0, 3, [("show", 0), ("jump", 1), ("return", 1)], [(0, 2, 0, 0)])
        self.assertEqual([live_at(code, 0), live_at(code, 1)], [[0], []])

    def test_waiting_behind_a_call(self):
        code = compiled(program_of("fun f(a, b) {let c = call a(b); show b; return c;}"))["f"]
        self.assertEqual((live_at(code, 0), waiting_at(code, 0)), ([0, 1], [1]))
        text = "fun f(a, b) {try {let c = call a(b); return c;} catch e {return b;}}"
        code = compiled(program_of(text))["f"]
        self.assertEqual((live_at(code, 0), waiting_at(code, 0)), ([0, 1], [1]))

    def test_random_programs(self):
        for code in codes_of_random_programs(range(25)):
            for number in range(len(code.rows())):
                live = [place for place in range(code.registers()) if is_live(code, number, place)]
                self.assertEqual(live_at(code, number), live)
                waiting = [place for place in range(code.registers())
                           if any(written != place and is_live(code, to, place) for to, written in steps(code, number))]
                self.assertEqual(waiting_at(code, number), waiting)

    def test_what_is_told_is_new(self):
        code = Code(0, 1, [("show", 0), ("return", 0)], [])
        live_at(code, 0).clear()
        waiting_at(code, 0).clear()
        self.assertEqual((live_at(code, 0), waiting_at(code, 0)), ([0], [0]))

    def test_unknown_rows(self):
        code = Code(0, 1, [("show", 0), ("return", 0)], [])
        for thing in STRANGE + (2, -2, code):
            asked = (
                lambda: live_at(code, thing), lambda: waiting_at(code, thing), lambda: live_paper(code, thing, 0),
                lambda: judge_live(code, thing, 0, None), lambda: judge_live(code, thing, 0, ("way", (0,))),
            )
            for ask in asked:
                with self.assertRaises(UnknownName) as caught:
                    ask()
                self.assertIs(caught.exception.name, thing)


class Papers(unittest.TestCase):
    #     0 test 0, 3     1 move 1, 2     2 jump 0     3 show 3     4 return 4
    CODE = Code(0, 7, [("test", 0, 3), ("move", 1, 2), ("jump", 0), ("show", 3), ("return", 4)], [(3, 4, 4, 5)])

    def right(self, number, place, paper, code=None):
        self.assertIs(judge_live(code or self.CODE, number, place, paper), True, paper)

    def wrong(self, number, place, paper, code=None):
        self.assertIs(judge_live(code or self.CODE, number, place, paper), False, paper)

    def test_told_papers_are_right_and_of_one_form(self):
        for code in [self.CODE] + codes_of_random_programs(range(25, 40)):
            for number in range(len(code.rows())):
                live = live_at(code, number)
                for place in range(code.registers()):
                    paper = live_paper(code, number, place)
                    self.assertIs(type(paper), tuple)
                    self.assertIs(type(paper[1]), tuple)
                    self.assertEqual(paper[0], "way" if place in live else "closed")
                    self.right(number, place, paper, code)
                    self.wrong(number, place, ("closed" if place in live else "way", paper[1]), code)

    def test_ways(self):
        self.right(0, 0, ("way", (0,)))
        self.right(0, 2, ("way", (0, 1)))
        self.right(0, 3, ("way", (0, 3)))
        self.right(0, 4, ("way", (0, 3, 4)))
        # A way need not be the shortest one, and it may read the register before its end.
        self.right(0, 0, ("way", (0, 1, 2, 0)))
        self.right(0, 4, ("way", (0, 1, 2, 0, 1, 2, 0, 3, 4)))

    def test_no_ways(self):
        rows = (
            (0, 0, (1,)), (0, 2, (1,)), (0, 2, (0,)), (0, 2, (0, 2)), (0, 2, (0, 1, 2)), (0, 4, (0, 4)), (0, 4, (4,)),
            (0, 4, (3, 4)), (0, 3, (0, 1, 3)), (0, 4, ()), (0, 4, (0, 3, 4, 5)), (0, 4, (0, 3, -1)), (0, 1, (0, 1)),
            (4, 3, (4, 3)), (3, 4, (3, 3, 4)), (0, 6, (0, 3, 4)), (0, 0, (0, 1)),
        )
        for number, place, way in rows:
            self.wrong(number, place, ("way", way))

    def test_ways_do_not_write(self):
        code = Code(0, 3, [("const", 0, NONE), ("show", 0), ("return", 1)], [])
        self.wrong(0, 0, ("way", (0, 1)), code)
        self.right(0, 1, ("way", (0, 1, 2)), code)
        # The step to the next row writes 0; the one to the handler, which is the same row, does not.
        code = Code(0, 3, [("const", 0, NONE), ("show", 0), ("return", 1)], [(0, 1, 1, 1)])
        self.right(0, 0, ("way", (0, 1)), code)
        self.right(0, 1, ("way", (0, 1, 2)), code)
        code = Code(0, 3, [("const", 0, NONE), ("show", 0), ("return", 1)], [(0, 1, 1, 0)])
        self.wrong(0, 0, ("way", (0, 1)), code)

    def test_closed(self):
        self.right(0, 1, ("closed", (0, 1, 2, 3, 4)))
        self.right(3, 0, ("closed", (3, 4)))
        self.right(4, 3, ("closed", (4,)))
        # More rows than can be come to, as long as they are not left and do not read.
        self.right(4, 6, ("closed", (0, 1, 2, 3, 4)))
        self.right(4, 0, ("closed", (3, 4)))
        # The step from row 1 writes 1, so row 2 is not needed.
        code = Code(0, 3, [("show", 0), ("const", 1, NONE), ("show", 1), ("return", 2)], [])
        self.right(0, 1, ("closed", (0, 1)), code)
        self.wrong(0, 1, ("closed", (0, 1, 2)), code)

    def test_not_closed(self):
        rows = (
            (0, 1, (0, 1, 2, 3)), (0, 5, (0, 1, 3, 4)), (0, 1, (1, 2, 3, 4)), (0, 1, (0, 1, 2, 3, 4, 4)),
            (0, 1, (0, 0, 1, 2, 3, 4)), (0, 1, (4, 3, 2, 1, 0)), (0, 1, ()), (0, 1, (0, 1, 2, 3, 4, 5)),
            (0, 1, (-1, 0, 1, 2, 3, 4)), (0, 0, (0, 1, 2, 3, 4)), (0, 4, (0, 1, 2, 3, 4)), (3, 4, (3,)), (4, 3, (3, 4)),
            (4, 3, (3,)), (0, 6, (4,)),
        )
        for number, place, closed in rows:
            self.wrong(number, place, ("closed", closed))

    def test_handlers_belong_to_what_is_closed(self):
        code = Code(0, 3, [("show", 0), ("return", 0), ("show", 1), ("return", 2)], [(1, 2, 2, 2)])
        self.wrong(0, 1, ("closed", (0, 1)), code)
        self.right(0, 1, ("way", (0, 1, 2)), code)
        self.right(0, 2, ("closed", (0, 1)), code)

    def test_things_that_are_no_papers(self):
        for thing in STRANGE:
            self.wrong(0, 0, thing)
            self.wrong(0, 1, thing)
            self.wrong(0, 0, ("way", thing))
            self.wrong(0, 1, ("closed", thing))
            self.wrong(0, 0, ("way", (thing,)))
            self.wrong(0, 4, ("way", (0, thing, 4)))
            self.wrong(0, 1, ("closed", (0, 1, 2, 3, 4, thing)))
            self.wrong(0, 0, (thing, (0,)))
        for thing in (["way", (0,)], ("way", [0]), ("way", (0,), 0), ("way",), ("way", (False,)), (("way",), (0,)),
                      ["closed", (0, 1, 2, 3, 4)], ("Way", (0,)), ("way", 0), self.CODE, ("way", self.CODE)):
            self.wrong(0, 0, thing)
        for thing in (("Closed", (0, 1, 2, 3, 4)), (None, (0, 1, 2, 3, 4)), ("closed", [0, 1, 2, 3, 4]),
                      ("closed", (False, True, 2, 3, 4)), ("closed", (0, True, 2, 3, 4)),
                      ("closed", "01234"), ("closed", {0: 0, 1: 1, 2: 2, 3: 3, 4: 4})):
            self.wrong(0, 1, thing)

    def test_papers_for_other_rows_and_registers(self):
        self.wrong(1, 0, ("way", (0,)))
        self.wrong(0, 3, ("way", (0, 1)))
        self.wrong(2, 1, ("closed", (3, 4)))

    def test_long_code(self):
        rows = [("show", 0)] * 1500 + [("return", 1)]
        code = Code(0, 3, rows, [])
        self.assertEqual(live_paper(code, 0, 1), ("way", tuple(range(1501))))
        self.assertEqual(live_paper(code, 0, 2), ("closed", tuple(range(1501))))
        self.right(0, 1, ("way", tuple(range(1501))), code)


if __name__ == "__main__":
    unittest.main()
