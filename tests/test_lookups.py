"""Lines of look-ups and entries (S5.1 to S5.3); shapeguess/lookups.py."""

import random
import unittest

from samples import NONE, NO, STRANGE, YES, num
from shapeguess.errors import NotThere
from shapeguess.lookups import entry_for, is_right, look_up
from shapeguess.objects import Heap
from shapeguess.shapes import Shapes

# Object 1 is below 3, which is below 0; object 2 is below 0.
OBJECTS = [
    (None, (("f", num(0)), ("g", YES))), (3, ()), (0, (("h", NONE), ("g", NO))), (0, (("h", ("obj", 1)),)), (None, ()),
]
NO_OBJECTS = (None, True, False, -1, 5, 10 ** 40, "", "0", (), (0,), [], {}, Shapes())


def made():
    return Heap(Shapes(), OBJECTS)


class LookUps(unittest.TestCase):
    def test_lines(self):
        heap = made()
        rows = (
            (0, "f", ((0,), num(0))), (0, "g", ((0,), YES)), (0, "h", "field"), (1, "f", ((1, 3, 0), num(0))),
            (1, "h", ((1, 3), ("obj", 1))), (2, "g", ((2,), NO)), (2, "f", ((2, 0), num(0))), (2, "h", ((2,), NONE)),
            (3, "g", ((3, 0), YES)), (4, "f", "field"), (1, "z", "field"),
        )
        for k, f, told in rows:
            self.assertEqual(look_up(heap, k, f), told)
        for f in STRANGE:
            self.assertEqual(look_up(heap, 1, f), "field")
        self.assertEqual(heap, made())
        self.assertEqual(heap.table(), made().table())

    def test_not_there(self):
        heap = made()
        for k in NO_OBJECTS:
            for call, rest in ((look_up, ("f",)), (look_up, (None,)), (entry_for, ("f", True)), (entry_for, ("z", False))):
                with self.assertRaises(NotThere) as caught:
                    call(heap, k, *rest)
                self.assertIs(caught.exception.number, k)
        self.assertEqual(heap.table(), made().table())


class Entries(unittest.TestCase):
    def test_reading(self):
        heap = made()
        # The shapes: 0 (None, f g), 1 (3,), 2 (0, h g), 3 (0, h), 4 (None,).
        rows = (
            (0, "f", (0, ("own", 0))), (0, "g", (0, ("own", 1))), (2, "g", (2, ("own", 1))),
            (2, "f", (2, ("up", ((0, 0),), 0))), (3, "g", (3, ("up", ((0, 0),), 1))),
            (1, "h", (1, ("up", ((3, 3),), 0))), (1, "g", (1, ("up", ((3, 3), (0, 0)), 1))),
            (1, "z", None), (4, "f", None), (0, "h", None),
        )
        for k, f, entry in rows:
            self.assertEqual(entry_for(heap, k, f, False), entry)
            self.assertTrue(entry is None or is_right(heap.table(), f, entry))
        self.assertEqual(len(heap.table()), 5)

    def test_writing(self):
        heap = made()
        self.assertEqual(entry_for(heap, 0, "g", True), (0, ("own", 1)))
        self.assertEqual(len(heap.table()), 5)
        self.assertEqual(entry_for(heap, 1, "g", True), (1, ("grow", 5, 0)))
        self.assertEqual(heap.table().shape(5), (3, ("g",)))
        self.assertEqual(entry_for(heap, 2, "f", True), (2, ("grow", 6, 2)))
        self.assertEqual(heap.table().shape(6), (0, ("h", "g", "f")))
        self.assertEqual(entry_for(heap, 2, "f", True), (2, ("grow", 6, 2)))
        # The shape later may be known.
        heap.table().number_of(None, ("z",))
        self.assertEqual(entry_for(heap, 4, "z", True), (4, ("grow", 7, 0)))
        self.assertEqual(len(heap.table()), 8)
        self.assertEqual(heap.objects(), OBJECTS)
        for k, f in ((1, "g"), (2, "f"), (4, "z"), (0, "g")):
            self.assertTrue(is_right(heap.table(), f, entry_for(heap, k, f, True)))


def chained():
    """A table in which look-ups of f and g have many right entries."""
    shapes = Shapes()
    for root, names in ((None, ("f", "g")), (0, ()), (0, ("g",)), (1, ("h",)), (7, ("f",)), (None, ()),
                        (0, ("g", "h")), (1, ())):
        shapes.number_of(root, names)
    return shapes


RIGHT = (
    ("f", (0, ("own", 0))), ("g", (0, ("own", 1))), ("g", (6, ("own", 0))), ("h", (6, ("own", 1))),
    ("f", (1, ("up", ((0, 0),), 0))), ("g", (1, ("up", ((0, 0),), 1))), ("g", (1, ("up", ((0, 2),), 0))),
    ("f", (3, ("up", ((1, 1), (0, 0)), 0))), ("f", (3, ("up", ((1, 2), (0, 0)), 0))),
    # Only the conditions count, whether or not objects can have the shapes.
    ("f", (3, ("up", ((1, 3), (1, 3), (1, 1), (0, 2), (0, 4)), 0))), ("f", (1, ("up", ((0, 4),), 0))),
    ("h", (2, ("grow", 6, 1))), ("g", (1, ("grow", 2, 0))),
)


class RightEntries(unittest.TestCase):
    def wrong(self, f, entry, shapes=None):
        shapes = shapes or chained()
        before = shapes.twin()
        self.assertIs(is_right(shapes, f, entry), False, (f, entry))
        self.assertEqual(shapes, before)

    def test_right_ones(self):
        shapes = chained()
        for f, entry in RIGHT:
            self.assertIs(is_right(shapes, f, entry), True, (f, entry))
            for other in "fghz":
                if other != f:
                    self.wrong(other, entry)
        self.assertEqual(shapes, chained())

    def test_each_number_bent(self):
        for f, entry in RIGHT:
            for bent in bent_by_one(entry):
                if (f, bent) not in RIGHT:
                    self.assertEqual(is_right(chained(), f, bent), is_right_again(chained(), f, bent), (f, bent))

    def test_each_part_by_something_else(self):
        for f, entry in RIGHT:
            for part in paths_in(entry):
                for thing in STRANGE + (Shapes(), 100, "own", "up", "grow", "many", (0, 0), [0, 0]):
                    bent = replaced(entry, part, thing)
                    if bent != entry or is_bool(thing):
                        expected = is_right_again(chained(), f, bent)
                        self.assertIs(is_right(chained(), f, bent), expected, (f, bent))

    def test_true_and_false_are_no_numbers(self):
        for f, entry in (("f", (False, ("own", 0))), ("f", (0, ("own", False))), ("g", (0, ("own", True))),
                         ("f", (True, ("up", ((0, 0),), 0))), ("f", (1, ("up", ((False, 0),), 0))),
                         ("f", (1, ("up", ((0, False),), 0))), ("f", (1, ("up", ((0, 0),), False))),
                         ("g", (1, ("grow", 2, False))), ("h", (2, ("grow", 6, True)))):
            self.wrong(f, entry)

    def test_wrong_ones(self):
        rows = (
            ("f", (8, ("own", 0))), ("f", (1, ("own", 0))), ("f", (0, ("own", 1))), ("f", (0, ("own", 0, 0))),
            ("f", (0, ("own",))), ("f", (0, ("up", ((0, 0),), 0))), ("f", (1, ("up", (), 0))),
            ("f", (1, ("up", ((0, 0),), 1))), ("f", (1, ("up", ((1, 0),), 0))), ("f", (1, ("up", ((0, 5),), 0))),
            ("f", (5, ("up", ((0, 0),), 0))), ("f", (5, ("up", ((None, 0),), 0))),
            # A chain in which a shape that is not the last one has the field, or the wrong root.
            ("f", (3, ("up", ((1, 4), (7, 0)), 0))), ("g", (3, ("up", ((1, 2), (0, 0)), 1))),
            ("f", (3, ("up", ((1, 1), (2, 0)), 0))), ("f", (3, ("up", ((1, 5), (0, 0)), 0))),
            ("f", (3, ("up", ((1, 1),), 0))), ("f", (1, ("up", ((0, 0), (0, 0)), 0))), ("f", (1, ("up", (0, 0), 0))),
            ("f", (1, ("up", ((0, 0, 0),), 0))), ("f", (1, ("up", ((0,),), 0))), ("f", (1, ("up", ((0, 8),), 0))),
            ("g", (1, ("grow", 2, 1))), ("g", (1, ("grow", 1, 0))), ("g", (1, ("grow", 0, 0))),
            ("g", (2, ("grow", 2, 1))), ("h", (2, ("grow", 6, 2))), ("h", (2, ("grow", 6, 0))),
            ("g", (1, ("grow", 8, 0))), ("g", (1, ("grow", 2))), ("g", (1, ("grow", 2, 0, 0))),
            ("g", (7, ("grow", 2, 0))), ("f", (0, ("Own", 0))), ("f", (0, (None, 0))), ("f", (0, ())), ("f", (0,)),
            ("f", (0, ("own", 0), 0)), ("f", "many"), ("f", ("own", 0)),
        )
        for f, entry in rows:
            self.wrong(f, entry)
        for thing in STRANGE + (Shapes(), 0, [0, ("own", 0)], (0, ["own", 0]), (1, ("up", [(0, 0)], 0)),
                                (1, ("up", ([0, 0],), 0)), [1, ("up", ((0, 0),), 0)], {0: ("own", 0)}):
            self.wrong("f", thing)

    def test_a_later_shape_without_a_number(self):
        shapes = Shapes()
        shapes.number_of(None, ())
        for later in (0, 1, 2, None):
            self.wrong("f", (0, ("grow", later, 0)), shapes)
        shapes.number_of(None, ("f",))
        self.assertTrue(is_right(shapes, "f", (0, ("grow", 1, 0))))

    def test_the_objects_that_meet_a_right_entry(self):
        """Looking up finds what a right entry tells; setting leads to what it tells (S5.3)."""
        drawn = random.Random(2)
        for _ in range(150):
            heap = drawn_heap(drawn)
            for k in range(len(heap)):
                f = drawn.choice("fgh")
                entry = entry_for(heap, k, f, False)
                told = look_up(heap, k, f)
                if told == "field":
                    self.assertIsNone(entry)
                else:
                    self.assertTrue(is_right(heap.table(), f, entry))
                    self.assertEqual((entry[0], entry[1][-1]), (heap.shape_of(k), heap.own(told[0][-1], f)))
                    chain = entry[1][1] if entry[1][0] == "up" else ()
                    self.assertEqual((k,) + tuple(number for number, _ in chain), told[0])
                    self.assertEqual([heap.shape_of(number) for number, _ in chain], [shape for _, shape in chain])
                entry = entry_for(heap, k, f, True)
                self.assertTrue(is_right(heap.table(), f, entry))
                heap.set_field(k, f, ("err", "new"))
                self.assertEqual(heap.contents(k)[entry[1][-1]], ("err", "new"))
                later = entry[1][1] if entry[1][0] == "grow" else entry[0]
                self.assertEqual(heap.shape_of(k), later)


def drawn_heap(drawn):
    heap = Heap(Shapes(), [(None, ())])
    for _ in range(8):
        if drawn.randint(0, 1):
            roots = [k for k in range(len(heap)) if above(heap, k) < 2]
            heap.make(drawn.choice(roots + [None]))
        heap.set_field(drawn.randrange(len(heap)), drawn.choice("fgh"), num(drawn.randint(0, 2)))
    return heap


def above(heap, k):
    root = heap.objects()[k][0]
    return 0 if root is None else 1 + above(heap, root)


def is_bool(thing):
    return thing is True or thing is False


def is_int(thing):
    return isinstance(thing, int) and not isinstance(thing, bool)


def is_right_again(shapes, f, entry):
    """The words of S5.2 a second time."""
    pairs = dict(enumerate(shapes.shape(number) for number in range(len(shapes))))
    if not (isinstance(entry, tuple) and len(entry) == 2 and is_int(entry[0]) and entry[0] in pairs):
        return False
    root, names = pairs[entry[0]]
    how = entry[1]
    if not (isinstance(how, tuple) and how and isinstance(how[0], str) and is_int(how[-1])):
        return False
    if how[0] == "own" and len(how) == 2:
        return f in names and names.index(f) == how[1]
    if f in names or len(how) != 3:
        return False
    if how[0] == "grow":
        later = [number for number in pairs if pairs[number] == (root, names + (f,))]
        return is_int(how[1]) and [how[1]] == later and how[2] == len(names)
    if how[0] != "up" or not isinstance(how[1], tuple) or not how[1]:
        return False
    for number, link in enumerate(how[1]):
        if not (isinstance(link, tuple) and len(link) == 2 and is_int(link[0]) and is_int(link[1]) and link[1] in pairs):
            return False
        if link[0] != root:
            return False
        root, names = pairs[link[1]]
        if number < len(how[1]) - 1 and f in names:
            return False
    return f in names and names.index(f) == how[2]


def paths_in(part):
    """The paths of all parts inside a tuple."""
    if not isinstance(part, tuple):
        return [()]
    return [()] + [(number,) + path for number, member in enumerate(part) for path in paths_in(member)]


def replaced(part, path, thing):
    if not path:
        return thing
    members = list(part)
    members[path[0]] = replaced(members[path[0]], path[1:], thing)
    return tuple(members)


def bent_by_one(entry):
    found = []
    for path in paths_in(entry):
        part = entry
        for number in path:
            part = part[number]
        if is_int(part):
            found += [replaced(entry, path, part + 1), replaced(entry, path, part - 1)]
        elif isinstance(part, tuple):
            found += [replaced(entry, path, part + part[-1:]), replaced(entry, path, part[:-1]),
                      replaced(entry, path, list(part))]
    return found


if __name__ == "__main__":
    unittest.main()
