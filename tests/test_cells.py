"""Cells (S5.4, S5.5); shapeguess/cells.py."""

import random
import unittest

from samples import NONE, NO, STRANGE, YES, num
from shapeguess.cells import Cell
from shapeguess.errors import NotThere
from shapeguess.lookups import look_up
from shapeguess.objects import Heap
from shapeguess.shapes import Shapes
from test_lookups import drawn_heap

# Objects 0 to 3 have f at different shapes; 4 and 5 are below 0; 6 has no f; 7 has the shape of 0.
OBJECTS = [
    (None, (("f", num(0)),)), (None, (("g", NONE), ("f", num(1)))), (None, (("f", num(2)), ("g", NONE))),
    (None, (("h", NONE), ("f", YES))), (0, ()), (0, (("g", NO),)), (None, ()), (None, (("f", NO),)),
]
# The shapes of the objects, by their numbers.
SHAPES = [0, 1, 2, 3, 4, 5, 6, 0]
NO_OBJECTS = (None, True, False, -1, 8, 10 ** 40, "", "0", (), (0,), [], {}, Shapes())


def made():
    return Heap(Shapes(), OBJECTS)


class CellTest(unittest.TestCase):
    def holds(self, cell, entries, rises):
        self.assertEqual((cell.entries(), cell.rises()), (entries, rises))


class Reading(CellTest):
    def test_a_new_cell(self):
        for most in (1, 2, 3):
            for is_writing in (True, False):
                cell = Cell(most, is_writing)
                self.holds(cell, [], 0)
                self.assertIsNone(cell.look(made(), 0, "f"))

    def test_learning_up_to_most(self):
        heap = made()
        told = [(SHAPES[k], ("own", (0, 1, 0, 1)[k])) for k in range(4)]
        for most in (1, 2, 3):
            cell = Cell(most, False)
            for k in range(most):
                self.assertIs(cell.learn(heap, k, "f"), True)
                self.holds(cell, told[:k + 1], k + 1)
                self.assertIs(cell.learn(heap, k, "f"), False)
                self.assertEqual(cell.look(heap, k, "f"), told[k])
            self.assertIs(cell.learn(heap, most, "f"), True)
            self.holds(cell, "many", most + 1)
            for k in range(len(OBJECTS)):
                self.assertIs(cell.learn(heap, k, "f"), False)
                self.assertIsNone(cell.look(heap, k, "f"))
            self.holds(cell, "many", most + 1)

    def test_an_object_of_a_known_shape(self):
        heap = made()
        cell = Cell(1, False)
        cell.learn(heap, 0, "f")
        self.assertEqual(cell.look(heap, 7, "f"), (0, ("own", 0)))
        self.assertIs(cell.learn(heap, 7, "f"), False)
        self.holds(cell, [(0, ("own", 0))], 1)

    def test_a_line(self):
        heap = made()
        cell = Cell(2, False)
        self.assertTrue(cell.learn(heap, 4, "f"))
        self.assertTrue(cell.learn(heap, 5, "f"))
        up = [(4, ("up", ((0, 0),), 0)), (5, ("up", ((0, 0),), 0))]
        self.holds(cell, up, 2)
        self.assertEqual(cell.look(heap, 5, "f"), up[1])

    def test_a_shape_met_again_with_another_line(self):
        heap = made()
        cell = Cell(3, False)
        cell.learn(heap, 4, "f")
        heap.set_field(0, "z", NONE)
        self.assertIsNone(cell.look(heap, 4, "f"))
        self.assertIs(cell.learn(heap, 4, "f"), True)
        self.holds(cell, "many", 2)

    def test_a_shape_met_again_where_the_look_up_finds_nothing(self):
        heap = made()
        cell = Cell(3, False)
        cell.learn(heap, 4, "f")
        heap.drop_field(0, "f")
        # That the cell has an entry with this shape comes before the look-up.
        self.assertIs(cell.learn(heap, 4, "f"), True)
        self.holds(cell, "many", 2)

    def test_look_ups_that_find_nothing(self):
        heap = made()
        cell = Cell(1, False)
        self.assertIs(cell.learn(heap, 6, "f"), False)
        self.holds(cell, [], 0)
        cell.learn(heap, 0, "f")
        # Not even a full cell rises.
        self.assertIs(cell.learn(heap, 6, "f"), False)
        self.assertEqual(cell.read_field(heap, 6, "f"), "field")
        self.holds(cell, [(0, ("own", 0))], 1)
        self.assertEqual(len(heap.table()), 7)

    def test_reading(self):
        heap = made()
        cell = Cell(2, False)
        for k, value, entries in ((0, num(0), 1), (7, NO, 1), (4, num(0), 2), (4, num(0), 2), (6, "field", 2)):
            self.assertEqual(cell.read_field(heap, k, "f"), value)
            self.assertEqual(len(cell.entries()), entries)
        self.assertEqual(cell.read_field(heap, 1, "f"), num(1))
        self.holds(cell, "many", 3)
        for k, value in ((0, num(0)), (2, num(2)), (4, num(0)), (6, "field")):
            self.assertEqual(cell.read_field(heap, k, "f"), value)
        self.holds(cell, "many", 3)
        self.assertEqual(heap, made())

    def test_an_entry_with_a_chain_that_no_object_of_a_heap_has(self):
        shapes = Shapes()
        heap = Heap(shapes, OBJECTS)
        cell = Cell(2, False)
        other = Heap(shapes, [(None, (("f", YES),)), (0, ())])
        cell.learn(heap, 4, "f")
        self.assertEqual(cell.read_field(other, 1, "f"), YES)
        # In this heap the number of the chain is that of an object of another shape, or of none.
        self.assertIsNone(cell.look(Heap(shapes, [(None, ()), (0, ())]), 1, "f"))
        cell = Cell(2, False)
        far = Heap(shapes, [(None, ())] * 9 + [(None, (("f", NO),)), (9, ())])
        cell.learn(far, 10, "f")
        near = Heap(shapes, [(None, ())])
        self.assertIsNone(cell.look(near, 0, "f"))
        self.assertEqual(len(cell.entries()), 1)

    def test_a_chain_with_a_number_that_another_heap_does_not_have(self):
        shapes = Shapes()
        cell = Cell(2, False)
        cell.learn(Heap(shapes, [(5, ()), (0, ())] + [(None, ())] * 3 + [(None, (("f", NO),))]), 1, "f")
        # Object 0 is another one here, and there is no object 5.
        small = Heap(shapes, [(None, ()), (0, ())])
        self.assertIsNone(cell.look(small, 1, "f"))
        self.assertEqual(cell.read_field(small, 1, "f"), "field")
        self.assertEqual(cell.entries(), "many")

    def test_two_steps_up(self):
        heap = Heap(Shapes(), [(None, (("f", YES),)), (0, ()), (1, ())])
        cell = Cell(1, False)
        cell.learn(heap, 2, "f")
        self.holds(cell, [(2, ("up", ((1, 1), (0, 0)), 0))], 1)
        heap.put_at(0, 0, NO)
        self.assertEqual(cell.read_field(heap, 2, "f"), NO)
        # The middle one gets the field: the entry is not met any more.
        heap.set_field(1, "f", num(2))
        self.assertIsNone(cell.look(heap, 2, "f"))
        self.assertEqual(cell.read_field(heap, 2, "f"), num(2))
        self.holds(cell, "many", 2)


class Writing(CellTest):
    def test_learning(self):
        heap = made()
        cell = Cell(3, True)
        self.assertTrue(cell.learn(heap, 1, "f"))
        self.holds(cell, [(1, ("own", 1))], 1)
        self.assertEqual(len(heap.table()), 7)
        self.assertTrue(cell.learn(heap, 6, "f"))
        # The shape later is there already.
        self.holds(cell, [(1, ("own", 1)), (6, ("grow", 0, 0))], 2)
        self.assertTrue(cell.learn(heap, 5, "f"))
        self.holds(cell, [(1, ("own", 1)), (6, ("grow", 0, 0)), (5, ("grow", 7, 1))], 3)
        self.assertEqual(heap.table().shape(7), (0, ("g", "f")))
        self.assertEqual(heap.objects(), OBJECTS)
        self.assertFalse(cell.learn(heap, 5, "f"))
        # The table is asked for the shape later, also where the cell then becomes "many".
        self.assertTrue(cell.learn(heap, 4, "f"))
        self.holds(cell, "many", 4)
        self.assertEqual(heap.table().shape(8), (0, ("f",)))
        self.assertFalse(cell.learn(heap, 3, "h"))

    def test_writing(self):
        heap = made()
        cell = Cell(3, True)
        for k, rises in ((0, 1), (7, 1), (4, 2), (4, 3), (6, 4), (5, 4), (2, 4)):
            self.assertIsNone(cell.write_field(heap, k, "f", ("err", "w")))
            self.assertEqual(cell.rises(), rises)
            self.assertEqual(look_up(heap, k, "f"), ((k,), ("err", "w")))
        self.assertEqual(heap.objects()[4:6], [(0, (("f", ("err", "w")),)), (0, (("g", NO), ("f", ("err", "w"))))])
        self.assertEqual(cell.entries(), "many")

    def test_growing_by_an_entry(self):
        heap = Heap(Shapes(), [(None, ())] * 3)
        cell = Cell(1, True)
        for k in range(3):
            cell.write_field(heap, k, "f", num(k))
            self.holds(cell, [(0, ("grow", 1, 0))], 1)
        self.assertEqual(heap.objects(), [(None, (("f", num(k)),)) for k in range(3)])
        self.assertEqual(len(heap.table()), 2)


class Cells(CellTest):
    def test_wiping(self):
        heap = made()
        cell = Cell(1, False)
        self.assertIsNone(cell.wipe())
        self.holds(cell, [], 0)
        cell.learn(heap, 0, "f")
        self.assertIsNone(cell.wipe())
        self.holds(cell, [], 1)
        self.assertIsNone(cell.look(heap, 0, "f"))
        for k in (0, 1):
            cell.learn(heap, k, "f")
        self.holds(cell, "many", 3)
        cell.wipe()
        self.holds(cell, [], 3)
        cell.learn(heap, 1, "f")
        self.holds(cell, [(1, ("own", 1))], 4)

    def test_at_most_one_rise_more_than_most(self):
        drawn = random.Random(4)
        for most in (1, 2, 3):
            for is_writing in (False, True):
                cell = Cell(most, is_writing)
                heap = drawn_heap(drawn)
                for _ in range(200):
                    cell.learn(heap, drawn.randrange(len(heap)), "f")
                    heap.set_field(drawn.randrange(len(heap)), drawn.choice("abcdf"), YES)
                self.assertEqual((cell.entries(), cell.rises() <= most + 1), ("many", True))

    def test_numbers_of_no_object(self):
        heap = made()
        for is_writing in (False, True):
            cell = Cell(1, is_writing)
            for rises in (0, 1, 2):
                before = (cell.entries(), cell.rises(), heap.objects(), len(heap.table()))
                self.assertEqual(cell.rises(), rises)
                for k in NO_OBJECTS:
                    calls = [(cell.look, ()), (cell.learn, ())]
                    calls.append((cell.write_field, (YES,)) if is_writing else (cell.read_field, ()))
                    for call, rest in calls:
                        with self.assertRaises(NotThere) as caught:
                            call(heap, k, "f", *rest)
                        self.assertIs(caught.exception.number, k)
                self.assertEqual((cell.entries(), cell.rises(), heap.objects(), len(heap.table())), before)
                cell.learn(heap, rises, "f")

    def test_entries_are_new(self):
        cell = Cell(1, False)
        cell.learn(made(), 0, "f")
        cell.entries().clear()
        self.assertEqual(len(cell.entries()), 1)

    def test_twins(self):
        heap = made()
        cell = Cell(2, False)
        cell.learn(heap, 0, "f")
        twin = cell.twin()
        self.assertIsInstance(twin, Cell)
        self.assertEqual(twin, cell)
        twin.learn(heap, 1, "f")
        self.holds(cell, [(0, ("own", 0))], 1)
        self.holds(twin, [(0, ("own", 0)), (1, ("own", 1))], 2)
        cell.wipe()
        self.holds(twin, [(0, ("own", 0)), (1, ("own", 1))], 2)
        twin.learn(heap, 2, "f")
        again = twin.twin()
        self.holds(again, "many", 3)
        self.assertEqual(again, twin)
        # The twin has the same use and the same most.
        for most in (1, 2, 3):
            for is_writing in (False, True):
                self.assertEqual(Cell(most, is_writing).twin(), Cell(most, is_writing))

    def test_equality(self):
        heap = made()
        self.assertTrue(Cell(2, False) == Cell(2, False))
        self.assertFalse(Cell(2, False) == Cell(2, True))
        self.assertFalse(Cell(2, False) == Cell(3, False))
        one, other = Cell(2, False), Cell(2, False)
        one.learn(heap, 0, "f")
        self.assertFalse(one == other)
        other.learn(heap, 7, "f")
        self.assertTrue(one == other)
        one.wipe()
        other.wipe()
        one.learn(heap, 1, "f")
        self.assertTrue(one != other)
        other.learn(heap, 0, "f")
        self.assertFalse(one == other)
        one.wipe()
        other.wipe()
        self.assertTrue(one == other)
        # Equal entries, but another number of rises.
        self.assertFalse(one == Cell(2, False))
        for thing in STRANGE + ([], "many", Shapes()):
            self.assertFalse(Cell(2, False) == thing)

    def test_through_a_cell_as_without_it(self):
        """Whatever a cell has learned, and whenever it was cleared, it reads and writes as the plain look-up does."""
        drawn = random.Random(9)
        learned = 0
        for _ in range(120):
            heap = drawn_heap(drawn)
            reading, writing = Cell(drawn.randint(1, 3), False), Cell(drawn.randint(1, 3), True)
            for _ in range(40):
                k = drawn.randrange(len(heap))
                word = drawn.choice(("read", "read", "read", "write", "beside", "drop", "wipe"))
                if word == "read":
                    found = look_up(heap, k, "f")
                    learned += reading.look(heap, k, "f") is not None
                    before = heap.objects()
                    self.assertEqual(reading.read_field(heap, k, "f"), found if found == "field" else found[1])
                    self.assertEqual(heap.objects(), before)
                elif word == "write":
                    plain = heap.twin()
                    value = drawn.choice((YES, NO, num(2), ("obj", k)))
                    plain.set_field(k, "f", value)
                    learned += writing.look(heap, k, "f") is not None
                    writing.write_field(heap, k, "f", value)
                    self.assertEqual(heap, plain)
                elif word == "beside":
                    heap.set_field(k, drawn.choice("fg"), num(drawn.randint(0, 2)))
                elif word == "drop" and heap.own(k, "f") is not None:
                    heap.drop_field(k, "f")
                elif word == "wipe" and drawn.randint(0, 3) == 0:
                    reading.wipe()
                    writing.wipe()
        self.assertGreater(learned, 200)


if __name__ == "__main__":
    unittest.main()
