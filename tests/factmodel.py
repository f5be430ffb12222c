"""S6.2 and S6.5 a second time, in few words, and facts and rows that are drawn: to compare the package with them."""

from samples import NONE, NO, YES, num

VALUES = (NONE, YES, NO, num(0), num(1), ("tok", "col", 0), ("err", "e"), ("fun", "f"))
NAMES = ("a", "b", "c")


def kind(value):
    return value[1] if value[0] == "tok" else value[0]


def holds(scene, fact):
    """Whether a fact holds, where the scene has all that the fact names."""
    objects, told, names, places = scene

    def meant(mark):
        return ("obj", names[mark[1]]) if mark[0] == "name" else mark

    def shape(number):
        parent, fields = objects[number]
        roots = [name for name in names if names[name] == parent]
        return [(None if parent is None else root, tuple(f for f, _ in fields)) for root in roots or [None]
                if parent is None or roots]

    word = fact[0]
    if word == "global":
        return told.get(fact[1]) == meant(fact[2])
    if word == "holds":
        return fact[2] in shape(names[fact[1]])
    if word == "slot":
        return dict(objects[names[fact[1]]][1]).get(fact[2]) == meant(fact[3])
    value = places[fact[1]]
    if word == "kind":
        return kind(value) == fact[2]
    if word == "is":
        return value == meant(fact[2])
    if word == "shape":
        return value[0] == "obj" and fact[2] in shape(value[1])
    return (value == places[fact[2]]) == (word == "same")


def drawn_mark(drawn, names=NAMES):
    return drawn.choice(VALUES + tuple(("name", name) for name in names))


def drawn_shape(drawn, names=NAMES):
    return (drawn.choice((None,) + tuple(names)), drawn.choice(((), ("f",), ("f", "g"), ("g", "f"), ("g",))))


def drawn_fact(drawn, registers=4, names=NAMES):
    word = drawn.choice(("kind", "is", "is", "shape", "same", "unlike", "unlike", "global", "holds", "slot", "slot"))
    q, t = drawn.randrange(registers), drawn.randrange(registers)
    if word == "kind":
        return (word, q, drawn.choice(("none", "bit", "bit", "bit", "err", "fun", "obj", "obj", "num", "col")))
    if word == "is":
        return (word, q, drawn_mark(drawn, names))
    if word == "shape":
        return (word, q, drawn_shape(drawn, names))
    if word in ("same", "unlike"):
        return (word, q, t)
    if word == "global":
        return (word, drawn.choice("gh"), drawn_mark(drawn, names))
    if word == "holds":
        return (word, drawn.choice(names), drawn_shape(drawn, names))
    return (word, drawn.choice(names), drawn.choice("fg"), drawn_mark(drawn, names))


def drawn_row(drawn, registers=4):
    word = drawn.choice(("const", "move", "global", "put", "get", "get", "get", "set", "set", "drop", "new", "new", "prim",
                         "prim", "same", "same", "call", "method", "jump", "test", "show", "return", "throw"))
    r, s, t = (drawn.randrange(registers) for _ in range(3))
    f, g = drawn.choice("fg"), drawn.choice("gh")
    args = tuple(drawn.randrange(registers) for _ in range(drawn.randint(1, 2)))
    return {
        "const": (word, r, drawn.choice(VALUES)), "move": (word, r, s), "global": (word, r, g), "put": (word, g, s),
        "get": (word, r, s, f), "set": (word, s, f, t), "drop": (word, s, f), "new": (word, r, s),
        "prim": (word, r, drawn.choice(("add", "neg", "less", "idle")), args), "same": (word, r, s, t),
        "call": (word, r, s, args), "method": (word, r, s, f, args), "jump": (word, 0), "test": (word, s, 0),
        "show": (word, s), "return": (word, s), "throw": (word, s),
    }[word]


class Throws(Exception):
    pass


def look_up(objects, value, field):
    if value[0] != "obj":
        raise Throws()
    number = value[1]
    while field not in dict(objects[number][1]):
        number = objects[number][0]
        if number is None:
            raise Throws()
    return dict(objects[number][1])[field]


def depth(objects, number):
    return 0 if objects[number][0] is None else 1 + depth(objects, objects[number][0])


def carried_out(drawn, signature, row, scene):
    """The scene behind a row that is finished, with drawn values where the book or the functions decide; or None."""
    objects, told, names, places = list(scene[0]), dict(scene[1]), scene[2], list(scene[3])
    after = (objects, told, names, places)
    try:
        carry_out(drawn, signature, row, after)
    except Throws:
        return None
    return after


def carry_out(drawn, signature, row, after):
    objects, told, _, places = after
    word = row[0]

    def any_value():
        pool = drawn.choice((list(places), list(VALUES)))
        return drawn.choice(pool + [("obj", k) for k in range(len(objects))])

    if word in ("return", "throw") or word == "test" and kind(places[row[1]]) != "bit":
        raise Throws()
    if word == "const":
        places[row[1]] = row[2]
    elif word == "move":
        places[row[1]] = places[row[2]]
    elif word == "global":
        places[row[1]] = told[row[2]] if row[2] in told else any_value()
    elif word == "put":
        told[row[1]] = places[row[2]]
    elif word == "get":
        places[row[1]] = look_up(objects, places[row[2]], row[3])
    elif word in ("set", "drop"):
        value = places[row[1]]
        if value[0] != "obj":
            raise Throws()
        parent, pairs = objects[value[1]]
        fields = dict(pairs)
        if word == "set":
            fields[row[2]] = places[row[3]]
        elif row[2] not in fields:
            raise Throws()
        else:
            del fields[row[2]]
        objects[value[1]] = (parent, tuple(fields.items()))
    elif word == "new":
        value = places[row[2]]
        if value != NONE and (value[0] != "obj" or depth(objects, value[1]) == 2):
            raise Throws()
        objects.append((None if value == NONE else value[1], ()))
        places[row[1]] = ("obj", len(objects) - 1)
    elif word == "prim":
        kinds = tuple(kind(places[place]) for place in row[3])
        results = [result for _, wanted, result in signature.variants(row[2]) if wanted == kinds]
        if not results:
            raise Throws()
        tokens = [value for value in places if kind(value) == results[0]]
        tokens += [YES, NO] if results[0] == "bit" else [("tok", results[0], number) for number in range(3)]
        places[row[1]] = drawn.choice(tokens)
    elif word == "same":
        places[row[1]] = YES if places[row[2]] == places[row[3]] else NO
    elif word in ("call", "method"):
        called = places[row[2]] if word == "call" else look_up(objects, places[row[2]], row[3])
        if called[0] != "fun":
            raise Throws()
        for number in range(len(objects)):
            if drawn.randint(0, 1):
                fields = drawn.sample(("f", "g", "q"), drawn.randint(0, 3))
                objects[number] = (objects[number][0], tuple((f, any_value()) for f in fields))
        for g in "gh":
            if drawn.randint(0, 1):
                told[g] = any_value()
        places[row[1]] = any_value()
