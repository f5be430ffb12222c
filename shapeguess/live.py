"""The registers that are live or wait at a row, and papers that show it (S2.7, S2.8)."""

from shapeguess.plainrows import read_by, steps_from
from shapeguess.values import is_index


def live_at(code, number):
    """Return the ascending list of the registers that are live at a row."""
    code.row(number)
    return live_lists(code)[number]


def waiting_at(code, number):
    """Return the ascending list of the registers that wait at a row."""
    code.row(number)
    return waiting_behind(live_lists(code), steps_in(code)[number])


def steps_in(code):
    """Return the list of the lists of steps, one for each row."""
    rows = code.rows()
    stretches = code.stretches()
    return [steps_from(rows, stretches, number) for number in range(len(rows))]


def live_lists(code):
    """Return the list of the ascending lists of live registers, one for each row."""
    reads = [read_by(row) for row in code.rows()]
    before = steps_before(code)
    live = [[] for _ in reads]
    for place in sorted({place for places in reads for place in places}):
        for row in rows_with_live(reads, before, place):
            live[row].append(place)
    return live


def steps_before(code):
    """Return for each row the list of the steps that lead to it: pairs of a row and the register that is written."""
    steps = steps_in(code)
    before = [[] for _ in steps]
    for row, found in enumerate(steps):
        for to, written in found:
            before[to].append((row, written))
    return before


def rows_with_live(reads, before, place):
    """Return the list of the rows at which a register is live, found backwards from the rows that read it."""
    found = {row: True for row, places in enumerate(reads) if place in places}
    todo = list(found)
    while todo:
        to = todo.pop()
        for row, written in before[to]:
            if written != place and row not in found:
                found[row] = True
                todo.append(row)
    return list(found)


def waiting_behind(live, steps):
    """Return the ascending list of the registers that are live behind some of the steps, which does not write them."""
    return sorted({place for to, written in steps for place in live[to] if place != written})


def live_paper(code, number, place):
    """Return a paper that shows whether a register is live at a row."""
    code.row(number)
    rows = code.rows()
    steps = steps_in(code)
    # For each row that was come to: the row before it.
    earlier = {number: None}
    todo = [number]
    while todo:
        row = todo.pop(0)
        if place in read_by(rows[row]):
            return ("way", way_to(earlier, row))
        for to in rows_untouched(steps[row], place):
            if to not in earlier:
                earlier[to] = row
                todo.append(to)
    return ("closed", tuple(sorted(earlier)))


def way_to(earlier, row):
    """Return the tuple of the rows that lead to a row, which is the last one."""
    way = [row]
    while earlier[way[-1]] is not None:
        way.append(earlier[way[-1]])
    return tuple(way[::-1])


def rows_untouched(steps, place):
    """Return the list of the rows to which those of the steps lead that do not write a register."""
    return [to for to, written in steps if written != place]


def judge_live(code, number, place, paper):
    """Return whether anything is a paper for this row and register: True or False."""
    code.row(number)
    if not isinstance(paper, tuple) or len(paper) != 2 or not isinstance(paper[1], tuple):
        return False
    many = len(code.rows())
    if not paper[1] or not all([is_index(row, many) for row in paper[1]]):
        return False
    if paper[0] == "way":
        return is_way(code, number, place, paper[1])
    return paper[0] == "closed" and is_closed_under(code, number, place, paper[1])


def is_way(code, number, place, way):
    """Return whether rows of the code lead from a row to one that reads the register, no step writing it."""
    steps = steps_in(code)
    for row, behind in zip(way[:-1], way[1:]):
        if behind not in rows_untouched(steps[row], place):
            return False
    return way[0] == number and place in read_by(code.row(way[-1]))


def is_closed_under(code, number, place, closed):
    """Return whether ascending rows of the code contain a row, do not read the register and are not left."""
    if list(closed) != sorted(set(closed)) or number not in closed:
        return False
    steps = steps_in(code)
    for row in closed:
        if place in read_by(code.row(row)):
            return False
        if not all([to in closed for to in rows_untouched(steps[row], place)]):
            return False
    return True
