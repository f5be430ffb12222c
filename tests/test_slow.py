"""Slow versions (S9.2); shapeguess/slow.py."""

import unittest

from samples import NONE, STRANGE, Maker, ground, num, program_of
from shapeguess.checking import check_version
from shapeguess.compiling import compiled
from shapeguess.deciding import decide_point, is_closed
from shapeguess.errors import NoFunction
from shapeguess.quick import Version
from shapeguess.shapes import Shapes
from shapeguess.slow import slow
from shapeguess.trees import Program
from slowversion import slow_version

TEXT = (
    "fun main(a, b) {let c = a; $g = a; let c = a.f; a.f = b; drop a.f; let c = new(a); let c = add(a, b); let c = a == b; "
    "let c = call a(b); let c = a.m(b); if a {show $g;} while b {let b = a;} try {throw c;} catch e {show e;} return a;} "
    "fun f(x) {return x;} fun idle() {}"
)


class Rows(unittest.TestCase):
    def rows(self, text, function="main"):
        program = program_of(text)
        version = slow(program, function)
        self.assertEqual(version.function(), function)
        self.assertEqual((version.names(), version.watched()), ([], []))
        self.assertEqual(version.registers(), compiled(program)[function].registers())
        return version

    def test_the_whole_version_by_hand(self):
        version = self.rows("fun main(a) {if a {show a;} return a.f;}")
        end = [(0, (("main", row, tuple((r, ("reg", r)) for r in live)),)) for row,
               live in enumerate([[0], [0], [0], [1], [], [1]])]
        self.assertEqual(version.rows(), [
            ("point", 0), ("check", ("kind", 0, "bit"), end[0]), ("test", 0, 4), ("link", 1, 1), ("link", 1, 2),
            ("point", 1), ("show", 0), ("link", 1, 2),
            ("point", 2), ("get", 1, 0, "f", end[2]), ("link", 1, 3),
            ("point", 3), ("return", 0, 1),
            ("point", 4), ("const", 1, NONE), ("link", 1, 5),
            ("point", 5), ("return", 0, 1),
        ])
        self.assertEqual(version.points(), [(row, (), end[row][1][0][2]) for row in range(6)])

    def test_the_least_function(self):
        version = self.rows("fun main() {}")
        self.assertEqual(version.rows(), [("point", 0), ("const", 0, NONE), ("link", 1, 1), ("point", 1),
                                          ("return", 0, 0)])
        self.assertEqual(version.points(), [(0, (), ()), (1, (), ((0, ("reg", 0)),))])

    def test_each_row_by_its_word(self):
        version = self.rows(TEXT)
        plain = compiled(program_of(TEXT))["main"].rows()
        pieces, rows = [], version.rows()
        for row in rows:
            if row[0] == "point":
                self.assertEqual(row[1], len(pieces))
                pieces.append([])
            else:
                pieces[-1].append(row)
        self.assertEqual({row[0] for row in plain}, set(
            "const move global put get set drop new prim same call method jump test show return throw".split()))
        for i, (row, made) in enumerate(zip(plain, pieces)):
            end = (0, (("main", i, version.point(i)[2]),))
            if row[0] in ("const", "move", "same", "put", "show"):
                self.assertEqual(made, [row, ("link", 1, i + 1)])
            elif row[0] in ("global", "get", "set", "drop", "new", "prim"):
                self.assertEqual(made, [row + (end,), ("link", 1, i + 1)])
            elif row[0] == "jump":
                self.assertEqual(made, [("link", 1, row[1])])
            elif row[0] == "test":
                last = rows.index(("point", i)) + 4
                self.assertEqual(made, [("check", ("kind", row[1], "bit"), end), ("test", row[1], last),
                                        ("link", 1, i + 1), ("link", 1, row[2])])
            elif row[0] == "return":
                self.assertEqual(made, [("return", 0, row[1])])
            elif row[0] == "throw":
                self.assertEqual(made, [("stop", end)])
            else:
                self.assertEqual(made, [row + (end, i + 1)])

    def test_drawn_programs(self):
        for seed in range(15):
            program = Program(ground(), Maker(seed).functions())
            for name in program.names():
                version = slow(program, name)
                self.assertIsInstance(version, Version)
                check_version(program, version)
                self.assertEqual(version, slow_version(program, name))

    def test_closed(self):
        program = program_of(TEXT)
        for name in program.names():
            self.assertTrue(is_closed(program, slow(program, name)))
        version = slow(program, "main")
        for k in range(len(version.points())):
            self.assertEqual(decide_point(program, version, k)[0], "closed")

    def test_tokens_of_any_size(self):
        self.assertIn(("const", 0, num(10 ** 40)), self.rows(f"fun main() {{show #num:{10 ** 40};}}").rows())


class Errors(unittest.TestCase):
    def test_no_function(self):
        program = program_of(TEXT)
        for name in STRANGE + ("Main", "mai", "m", b"main", ("main",), ["main"], Shapes(), program, slow(program, "f")):
            with self.assertRaises(NoFunction) as caught:
                slow(program, name)
            self.assertIs(caught.exception.name, name)


if __name__ == "__main__":
    unittest.main()
