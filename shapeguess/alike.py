"""States that differ only in the numbers of objects and in what does not count (S3.5)."""

from shapeguess.errors import MixedPrograms
from shapeguess.live import live_at, waiting_at


def pairing(state, other):
    """Return the least pairing as a dict from objects of state to objects of other, or None if there is none."""
    if state.program() != other.program() or state.book() != other.book():
        raise MixedPrograms()
    if outline(state) != outline(other):
        return None
    return paired(state.objects(), other.objects(), list(zip(counted_values(state), counted_values(other))))


def alike(state, other):
    """Return whether two states are alike: True or False."""
    return pairing(state, other) is not None


def reached(state):
    """Return the ascending list of the numbers of the objects that are found from the values that count."""
    objects = state.objects()
    found = {}
    todo = counted_values(state)
    while todo:
        value = todo.pop()
        if value is not None and value[0] == "obj" and value[1] not in found:
            found[value[1]] = True
            todo.extend(values_of(objects[value[1]]))
    return sorted(found)


def outline(state):
    """Return what must be equal in alike states, apart from values and objects."""
    frames = [(name, number) for name, number, _ in state.frames()]
    end = state.end()
    return (frames, sorted(state.global_values()), len(state.shown()), None if end is None else end[0])


def counted_values(state):
    """Return the list of the values in frames, globals, shown values and the end that must be paired."""
    values = frame_values(state)
    global_values = state.global_values()
    values.extend([global_values[name] for name in sorted(global_values)])
    values.extend(state.shown())
    if state.end() is not None:
        values.append(state.end()[1])
    return values


def frame_values(state):
    """Return the list of the values of the registers that are live, or wait, in the frames."""
    frames = state.frames()
    values = []
    # Many frames may wait at the same row, whose registers are worked out once.
    kept = {}
    for name, number, places in frames[:-1]:
        if (name, number) not in kept:
            kept[(name, number)] = waiting_at(state.code(name), number)
        values.extend([places[place] for place in kept[(name, number)]])
    for name, number, places in frames[-1:]:
        values.extend([places[place] for place in live_at(state.code(name), number)])
    return values


def values_of(plain):
    """Return the list of the parent of an object, as a value or None, and of the values of its fields."""
    parent, fields = plain
    above = None if parent is None else ("obj", parent)
    return [above] + [value for _, value in fields]


def paired(objects, others, todo):
    """Return the least pairing of objects under which all pairs of values in todo are paired, or None."""
    forth = {}
    back = {}
    todo = list(todo)
    while todo:
        value, other = todo.pop()
        if not are_both_objects(value, other):
            if value != other:
                return None
        elif value[1] not in forth and other[1] not in back:
            forth[value[1]] = other[1]
            back[other[1]] = value[1]
            mine = objects[value[1]]
            theirs = others[other[1]]
            if [name for name, _ in mine[1]] != [name for name, _ in theirs[1]]:
                return None
            todo.extend(list(zip(values_of(mine), values_of(theirs))))
        elif forth.get(value[1]) != other[1]:
            return None
    return forth


def are_both_objects(value, other):
    """Return whether two members of values_of are objects."""
    return value is not None and other is not None and value[0] == "obj" and other[0] == "obj"
