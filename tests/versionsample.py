"""A right version with a row of each form, for several tests."""

from samples import NONE, YES, num, program_of
from shapeguess.quick import Version

# The rows of main: 0 get 2 0 f, 1 show 2, 2 call 2 1 (0), 3 show 2, 4 method 2 0 m (1), 5 show 2, 6 prim 3 add (0, 1),
# 7 return 3, 8 const 3 none, 9 return 3. Registers 0 and 1 are live at rows 0 to 6, 2 at 1, 3 and 5, and 3 at 7 and 9.
# The rows of f: 0 call 1 0 (0), 1 show 1, 2 return 0, 3 const 2 none, 4 return 2; live are 0; 0 and 1; 0; none; 2.
PROGRAM = program_of(
    "fun main(a, b) {let c = a.f; show c; let c = call b(a); show c; let c = a.m(b); show c; return add(a, b);} "
    "fun f(x) {let y = call x(x); show y; return x;}"
)
A, B, C, D = ("reg", 0), ("reg", 1), ("reg", 2), ("reg", 3)
TWO = ((0, A), (1, B))
THREE = ((0, A), (1, B), (2, C))
SHAPE = ("n", ("f", "g"))
ROOTLESS = (None, ())


def end(steps, row, places=TWO):
    return (steps, (("main", row, places),))


# An end inside a function that was put inside: main waits at its call, with 0 and 1, and f stands at its row 1.
INNER_END = (3, (("main", 2, TWO), ("f", 1, ((0, B), (1, ("value", NONE))))))
DEEP_END = (4, (("main", 2, TWO), ("f", 0, ((0, ("name", "o")),)), ("f", 2, ((0, ("value", num(7))),))))

POINTS = (
    (0, (("kind", 0, "obj"), ("unlike", 0, 1), ("is", 1, ("name", "o")), ("shape", 0, SHAPE), ("same", 1, 1)), TWO),
    (3, (("kind", 1, "fun"), ("is", 0, ("name", "n")), ("same", 0, 0), ("unlike", 1, 0)), THREE),
    (5, (), THREE),
    (2, (), ((0, A), (1, ("value", ("fun", "f"))))),
    (7, (("is", 3, num(0)),), ((3, D),)),
)
ROWS = (
    ("point", 0),
    ("check", ("kind", 1, "fun"), end(0, 0)),
    ("get", 2, 0, "f", end(0, 0)),
    ("show", 2),
    ("call", 2, 1, (0,), end(2, 2), 1),
    ("point", 1),
    ("show", 2),
    ("method", 2, 0, "m", (1,), end(1, 4), 2),
    ("point", 2),
    ("show", 2),
    ("prim", 3, "add", (0, 1), end(1, 6)),
    ("return", 2, 3),
    ("point", 3),
    ("const", 1, ("name", "n")),
    ("const", 4, ("tok", "num", 10 ** 40)),
    ("move", 5, 0),
    ("same", 6, 5, 0),
    ("put", "g", 5),
    ("load", 7, 0, SHAPE, "g"),
    ("store", 0, SHAPE, "f", 7),
    ("grow", 0, ROOTLESS, "f", 1),
    ("variant", 8, "addnum", (4, 4)),
    ("test", 6, 25),
    ("global", 9, "g", end(0, 2)),
    ("jump", 27),
    ("check", ("shape", 5, ("o", ("f",))), INNER_END),
    ("new", 9, 5, end(0, 2)),
    ("set", 9, "f", 4, end(0, 2)),
    ("drop", 9, "f", DEEP_END),
    ("prim", 3, "idle", (), end(0, 2)),
    ("test", 6, 32),
    ("stop", end(0, 2)),
    ("link", 1, 4),
    ("point", 4),
    ("return", 0, 3),
)
WATCHED = (("global", "g", YES), ("holds", "n", SHAPE), ("slot", "o", "f", ("name", "n")))


def sample():
    return Version("main", ["n", "o"], list(WATCHED), 10, list(ROWS), list(POINTS))
