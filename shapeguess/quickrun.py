"""Quick runs: quick rows one by one, and pieces (S7.4, S7.6)."""

from shapeguess.points import bound_names
from shapeguess.quick import row_of_point
from shapeguess.quickwork import GoneBack, QuickWork, Stuck, quick_outcome
from shapeguess.working import Held, Thrown


def quick_step(program, book, version, binding, number, registers, held):
    """Carry out one quick row; return a tuple that begins with a word for what came of it."""
    row = version.row(number)
    objects, global_values, shown = held
    work = QuickWork(program, book, bound_names(version, binding), Held(objects, global_values, shown))
    places = tuple(registers)
    try:
        told = quick_outcome(work, row, number, places)
    except (Thrown, GoneBack):
        told = ("back", number, places)
    except Stuck:
        told = ("stuck", number, places)
    return told[:2] + (list(told[2]), work.held().parts()) + told[3:]


def quick_run(program, book, version, binding, k, registers, held):
    """Run the piece of a point; return the tuple of its last row."""
    return run_and_path(program, book, version, binding, k, registers, held)[0]


def run_path(program, book, version, binding, k, registers, held):
    """Run the piece of a point; return the list of the numbers of the rows that are carried out."""
    return run_and_path(program, book, version, binding, k, registers, held)[1]


def run_and_path(program, book, version, binding, k, registers, held):
    """Run the piece of a point; return the pair of the tuple of its last row and the list of its rows."""
    version.point(k)
    told = ("row", row_of_point(version, k) + 1, registers, held)
    path = []
    while told[0] == "row":
        path.append(told[1])
        told = quick_step(program, book, version, binding, told[1], told[2], told[3])
    return told, path
