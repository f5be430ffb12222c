"""S6.3 by search: the values of registers are tried, and what is told of objects then is compared."""

from factmodel import VALUES, kind

# For each kind that facts are drawn with there are more values than registers and marks.
FRESH = tuple(("tok", K, number) for K in ("num", "col") for number in (7, 8, 9)) + tuple(
    (word, name) for word in ("err", "fun") for name in ("x", "y", "z"))
FRESH_OBJECTS = (("obj", "1"), ("obj", "2"), ("obj", "3"))


def meant(mark):
    """Named objects are known by their names."""
    return ("obj", mark[1]) if mark[0] == "name" else mark


def registers_of(fact):
    many = {"kind": 1, "is": 1, "shape": 1, "same": 2, "unlike": 2}.get(fact[0], 0)
    return fact[1:1 + many]


def is_possible(fact, values):
    """Whether a fact about registers that have values is not wrong by these alone."""
    word = fact[0]
    value = values[fact[1]]
    if word == "kind":
        return kind(value) == fact[2]
    if word == "is":
        return value == meant(fact[2])
    if word == "shape":
        return value[0] == "obj"
    return (value == values[fact[2]]) == (word == "same")


def told_of_objects(facts, values):
    """Pairs of an object, or a global, or a field of an object, and what is told of it."""
    found = []
    for fact in facts:
        if fact[0] == "shape":
            found.append((values[fact[1]][1], fact[2]))
        elif fact[0] == "holds":
            found.append((fact[1], fact[2]))
        elif fact[0] in ("global", "slot"):
            found.append((fact[:-1], meant(fact[-1])))
    return found


def structure(facts, values):
    """What is told of each object, global and field, or None if it does not fit together."""
    known = {}
    for what, told in told_of_objects(facts, values):
        if known.setdefault(what, told) != told:
            return None
    for what in known:
        if what[0] == "slot" and what[1] in known and what[2] not in known[what[1]][1]:
            return None
        if isinstance(what, str) and not has_right_way(known, what):
            return None
    return known


def has_right_way(known, name):
    """Whether at most two objects are above one, and none is above itself; who is not told of has no parent."""
    way = [name]
    while way[-1] in known and known[way[-1]][0] is not None:
        way.append(known[way[-1]][0])
        if len(way) > 3 or way[-1] in way[:-1]:
            return False
    return True


def assignments(facts, registers, names):
    """All values of the registers that fit the facts, with what is told of objects."""
    universe = VALUES + FRESH + FRESH_OBJECTS + tuple(("obj", name) for name in names)
    later = {q: [fact for fact in facts if registers_of(fact) and max(registers_of(fact)) == q]
             for q in range(registers)}

    def go_on(values):
        if len(values) == registers:
            known = structure(facts, values)
            if known is not None:
                yield values, known
            return
        for value in universe:
            more = values + (value,)
            if all(is_possible(fact, more) for fact in later[len(values)]):
                yield from go_on(more)

    return go_on(())


def is_contradictory(facts, registers, names):
    return next(assignments(facts, registers, names), None) is None


def can_fail(fact, values, known):
    """Whether a fact need not hold where registers have these values and objects are told so."""
    if fact[0] in ("kind", "is", "same", "unlike"):
        return not is_possible(fact, values)
    if fact[0] == "shape":
        return values[fact[1]][0] != "obj" or known.get(values[fact[1]][1]) != fact[2]
    if fact[0] == "holds":
        return known.get(fact[1]) != fact[2]
    return known.get(fact[:-1]) != meant(fact[-1])


def is_following(facts, fact, registers, names):
    return not any(can_fail(fact, values, known) for values, known in assignments(facts, registers, names))
