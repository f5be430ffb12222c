"""Heaps (S4.3); shapeguess/objects.py."""

import random
import unittest

from samples import NONE, NO, STRANGE, YES, ground_book, num, program_of
from shapeguess.errors import BadShape, NotThere
from shapeguess.objects import Heap
from shapeguess.shapes import Shapes
from shapeguess.states import State
from shapeguess.steps import step

# Object 1 is below 3, which is below 0; object 4 is below 1.
OBJECTS = [
    (None, (("f", num(0)), ("g", YES))), (3, ()), (None, (("g", NO),)), (0, (("f", ("obj", 1)),)),
    (None, (("f", NONE), ("g", NONE))),
]
NO_OBJECTS = (None, True, False, -1, 5, 10 ** 40, "", "0", (), (0,), [], [0], {}, ("obj", 0), Shapes())


def heap_of(objects=tuple(OBJECTS)):
    return Heap(Shapes(), list(objects))


def shapes_of(heap):
    return [heap.table().shape(number) for number in range(len(heap.table()))]


class HeapTest(unittest.TestCase):
    def unchanged(self, heap, kind, call, *arguments):
        """A call raises this error and changes neither heap nor table; returns the error."""
        before = (heap.objects(), shapes_of(heap))
        with self.assertRaises(kind) as caught:
            call(*arguments)
        self.assertEqual((heap.objects(), shapes_of(heap)), before)
        return caught.exception


class Objects(HeapTest):
    def test_what_it_represents(self):
        heap = heap_of()
        self.assertEqual(heap.objects(), OBJECTS)
        self.assertEqual(len(heap), 5)
        self.assertEqual([heap.contents(k) for k in range(5)], [[num(0), YES], [], [NO], [("obj", 1)], [NONE, NONE]])
        self.assertEqual([heap.shape_of(k) for k in range(5)], [0, 1, 2, 3, 0])
        self.assertEqual(shapes_of(heap), [(None, ("f", "g")), (3, ()), (None, ("g",)), (0, ("f",))])
        self.assertEqual(Heap(Shapes(), ()).objects(), [])
        self.assertEqual(len(heap_of([])), 0)

    def test_the_table_is_kept_itself(self):
        shapes = Shapes()
        shapes.number_of(None, ("g",))
        heap = Heap(shapes, OBJECTS)
        self.assertIs(heap.table(), shapes)
        self.assertEqual([heap.shape_of(k) for k in range(5)], [1, 2, 0, 3, 1])
        shapes.number_of(9, ())
        self.assertEqual(heap.make(None), 5)
        self.assertEqual(heap.shape_of(5), 5)
        self.assertEqual(shapes.shape(5), (None, ()))

    def test_own(self):
        heap = heap_of()
        self.assertEqual([heap.own(0, f) for f in "fgh"], [0, 1, None])
        self.assertEqual([heap.own(k, "f") for k in range(5)], [0, None, None, 0, 0])
        for f in STRANGE:
            self.assertIsNone(heap.own(0, f))
        self.assertEqual(heap, heap_of())

    def test_what_was_handed_in_may_change(self):
        objects = list(OBJECTS)
        heap = Heap(Shapes(), objects)
        objects.clear()
        self.assertEqual(heap.objects(), OBJECTS)
        heap.set_field(0, "f", NO)
        heap.make(0)
        self.assertEqual(objects, [])

    def test_what_is_told_is_new(self):
        heap = heap_of()
        heap.objects().append(None)
        heap.contents(0).append(NO)
        heap.contents(0)[0] = NO
        self.assertEqual(heap.objects(), OBJECTS)
        self.assertEqual(heap.contents(0), [num(0), YES])


class Operations(HeapTest):
    def test_make(self):
        heap = heap_of()
        self.assertEqual([heap.make(None), heap.make(0), heap.make(3), heap.make(2), heap.make(5), heap.make(9)],
                         [5, 6, 7, 8, 9, 10])
        self.assertEqual(heap.objects(), OBJECTS + [(None, ()), (0, ()), (3, ()), (2, ()), (5, ()), (9, ())])
        self.assertEqual(shapes_of(heap)[4:], [(None, ()), (0, ()), (2, ()), (5, ()), (9, ())])
        self.assertEqual([heap.shape_of(k) for k in range(5, 11)], [4, 5, 1, 6, 7, 8])

    def test_make_where_it_is_too_deep(self):
        heap = heap_of()
        for root in (1, True, False, -1, 5, 10 ** 40, "", "0", (), [], {}, (0,), ("obj", 0), Shapes()):
            self.unchanged(heap, BadShape, heap.make, root)
        heap.make(3)
        self.unchanged(heap, BadShape, heap.make, 5)
        heap.make(0)
        heap.make(6)
        self.unchanged(heap, BadShape, heap.make, 7)

    def test_put_at(self):
        heap = heap_of()
        self.assertIsNone(heap.put_at(0, 1, ("obj", 2)))
        self.assertIsNone(heap.put_at(2, 0, NONE))
        self.assertEqual(heap.objects(), [(None, (("f", num(0)), ("g", ("obj", 2)))), OBJECTS[1], (None, (("g", NONE),)),
                                          OBJECTS[3], OBJECTS[4]])
        self.assertEqual(len(heap.table()), 4)

    def test_put_at_what_is_no_slot(self):
        heap = heap_of()
        for slot in (2, -1, True, False, None, "", "f", (), [], {}, 10 ** 40):
            error = self.unchanged(heap, NotThere, heap.put_at, 0, slot, NO)
            self.assertTrue(error.number is slot or error.number == slot)
        self.unchanged(heap, NotThere, heap.put_at, 1, 0, NO)
        for k in NO_OBJECTS:
            error = self.unchanged(heap, NotThere, heap.put_at, k, "x", NO)
            self.assertTrue(error.number is k)

    def test_set_field(self):
        heap = heap_of()
        self.assertIsNone(heap.set_field(0, "g", NO))
        self.assertEqual((heap.objects()[0], len(heap.table())), ((None, (("f", num(0)), ("g", NO))), 4))
        self.assertIsNone(heap.set_field(0, "h", YES))
        self.assertEqual(heap.objects(), [(None, (("f", num(0)), ("g", NO), ("h", YES)))] + OBJECTS[1:])
        self.assertEqual(shapes_of(heap)[4:], [(None, ("f", "g", "h"))])
        self.assertEqual((heap.shape_of(0), heap.contents(0)), (4, [num(0), NO, YES]))
        # A field of an object above is not its own.
        heap.set_field(1, "f", NO)
        heap.set_field(1, "g", NO)
        self.assertEqual((heap.objects()[1], heap.objects()[3]), ((3, (("f", NO), ("g", NO))), OBJECTS[3]))
        self.assertEqual(shapes_of(heap)[5:], [(3, ("f",)), (3, ("f", "g"))])
        # The shape that it gets may be there already.
        heap.make(3)
        heap.set_field(5, "f", YES)
        self.assertEqual((heap.shape_of(5), len(heap.table())), (5, 7))

    def test_drop_field(self):
        heap = heap_of()
        self.assertIsNone(heap.drop_field(0, "f"))
        self.assertEqual(heap.objects(), [(None, (("g", YES),))] + OBJECTS[1:])
        self.assertEqual((heap.shape_of(0), heap.contents(0), len(heap.table())), (2, [YES], 4))
        heap.drop_field(0, "g")
        self.assertEqual((heap.shape_of(0), heap.contents(0), shapes_of(heap)[4:]), (4, [], [(None, ())]))
        heap.drop_field(4, "g")
        self.assertEqual((heap.objects()[4], shapes_of(heap)[5:]), ((None, (("f", NONE),)), [(None, ("f",))]))

    def test_drop_what_is_not_there(self):
        heap = heap_of()
        for f in STRANGE + ("h", ("f",), ["f"]):
            self.unchanged(heap, BadShape, heap.drop_field, 0, f)
        self.unchanged(heap, BadShape, heap.drop_field, 1, "f")
        heap.drop_field(0, "f")
        self.unchanged(heap, BadShape, heap.drop_field, 0, "f")

    def test_numbers_of_no_object(self):
        heap = heap_of()
        for k in NO_OBJECTS:
            for call, rest in ((heap.shape_of, ()), (heap.contents, ()), (heap.own, ("f",)), (heap.own, (None,)),
                               (heap.put_at, (9, NO)), (heap.put_at, (0, NO)), (heap.set_field, ("f", NO)),
                               (heap.set_field, ("h", NO)), (heap.drop_field, ("f",)), (heap.drop_field, (None,))):
                error = self.unchanged(heap, NotThere, call, k, *rest)
                self.assertTrue(error.number is k)
        self.unchanged(heap_of([]), NotThere, heap_of([]).shape_of, 0)


class Twins(HeapTest):
    def test_a_twin_goes_its_own_way(self):
        heap = heap_of()
        heap.table().number_of(7, ())
        twin = heap.twin()
        self.assertEqual(twin, heap)
        self.assertEqual(twin.table(), heap.table())
        self.assertIsNot(twin.table(), heap.table())
        self.assertEqual([twin.shape_of(k) for k in range(5)], [heap.shape_of(k) for k in range(5)])
        twin.set_field(0, "f", NO)
        twin.set_field(0, "h", NO)
        twin.make(None)
        twin.drop_field(2, "g")
        twin.put_at(4, 0, NO)
        self.assertEqual(heap.objects(), OBJECTS)
        self.assertEqual(len(heap.table()), 5)
        other = heap.twin()
        heap.set_field(3, "f", NO)
        heap.set_field(3, "z", NO)
        self.assertEqual(other.objects(), OBJECTS)
        self.assertEqual(len(other.table()), 5)

    def test_equality(self):
        self.assertTrue(heap_of() == heap_of())
        shapes = Shapes()
        shapes.number_of(9, ())
        self.assertTrue(Heap(shapes, OBJECTS) == heap_of())
        self.assertFalse(heap_of([]) == heap_of())
        changed = heap_of()
        changed.put_at(0, 0, NO)
        self.assertFalse(changed == heap_of())
        self.assertTrue(changed != heap_of())
        for thing in STRANGE + (OBJECTS, tuple(OBJECTS), Shapes(), 5):
            self.assertFalse(heap_of() == thing)
        self.assertFalse(heap_of([]) == Shapes())

    def test_equal_lists_by_other_ways(self):
        heap = heap_of([(None, ())])
        heap.set_field(0, "a", YES)
        heap.set_field(0, "b", NO)
        self.assertTrue(heap == heap_of([(None, (("a", YES), ("b", NO)))]))
        heap.drop_field(0, "a")
        heap.set_field(0, "a", YES)
        self.assertFalse(heap == heap_of([(None, (("a", YES), ("b", NO)))]))


# main: one row for each operation, at a row of its own.
PROGRAM = program_of("fun main(s, t) {let r = s.f; let r = s.g; let r = new(s); s.f = t; s.g = t; drop s.f; drop s.g;}")
BOOK = ground_book()


class BesidePlainRows(HeapTest):
    """One heap beside the plain machine's rows."""

    def plain(self, row, objects, s, t):
        """The objects and r behind one row, or None if it throws."""
        state = State(PROGRAM, BOOK, [("main", row, (s, t, NONE, NONE))], objects, {}, [])
        after = step(state)
        return None if after.end() is not None else (after.objects(), after.frames()[0][2][2])

    def beside(self, heap, row, k, value):
        """One row by the heap: get has no operation of its own, so it is only compared by objects."""
        try:
            if row == 2:
                return ("obj", heap.make(k))
            if row in (3, 4):
                heap.set_field(k, "fg"[row - 3], value)
            elif row in (5, 6):
                heap.drop_field(k, "fg"[row - 5])
        except BadShape:
            return None
        return NONE

    def test_drawn_rows(self):
        drawn = random.Random(11)
        heap = heap_of()
        changes = 0
        for _ in range(1500):
            k = drawn.randrange(len(heap))
            value = drawn.choice((YES, NO, num(1), ("obj", k)))
            row = drawn.choice((2, 3, 3, 4, 4, 5, 6)) if len(heap) < 40 else drawn.choice((3, 4, 5, 6))
            before = heap.objects()
            plain = self.plain(row, before, ("obj", k), value)
            told = self.beside(heap, row, k, value)
            if plain is None:
                self.assertEqual((told, heap.objects()), (None, before))
            else:
                self.assertEqual((told, heap.objects()), (plain[1], plain[0]))
                changes += 1
            # What a get of the object itself would read.
            for row, f in enumerate("fg"):
                slot = heap.own(k, f)
                if slot is not None:
                    self.assertEqual(self.plain(row, heap.objects(), ("obj", k), NONE)[1], heap.contents(k)[slot])
        self.assertGreater(changes, 800)


if __name__ == "__main__":
    unittest.main()
