"""Lines of look-ups, and entries that tell where a field is found (S5.1 to S5.3)."""

from shapeguess.values import is_index, is_number


def look_up(heap, k, f):
    """Return the pair of the line of a look-up and the value that it finds, or the word "field" if it finds nothing."""
    line = [k]
    slot = heap.own(k, f)
    while slot is None:
        parent = heap.parent_of(line[-1])
        if parent is None:
            return "field"
        line.append(parent)
        slot = heap.own(parent, f)
    return (tuple(line), heap.contents(line[-1])[slot])


def entry_for(heap, k, f, is_writing):
    """Return the right entry for reading or writing a field that an object meets, or None."""
    shape = heap.shape_of(k)
    slot = heap.own(k, f)
    if slot is not None:
        return (shape, ("own", slot))
    if is_writing:
        return (shape, ("grow", heap.table().with_name(shape, f), len(heap.contents(k))))
    found = look_up(heap, k, f)
    if found == "field":
        return None
    above = found[0][1:]
    chain = tuple([(number, heap.shape_of(number)) for number in above])
    return (shape, ("up", chain, heap.own(above[-1], f)))


def meets(heap, k, entry):
    """Return whether an object meets an entry."""
    shape, how = entry
    if heap.shape_of(k) != shape:
        return False
    chain = how[1] if how[0] == "up" else ()
    return all([number < len(heap) and heap.shape_of(number) == told for number, told in chain])


def is_right(shapes, f, entry):
    """Return whether anything is a right entry for the word f in a table: True or False."""
    if not isinstance(entry, tuple) or len(entry) != 2 or not is_index(entry[0], len(shapes)):
        return False
    shape, how = entry
    if not isinstance(how, tuple) or len(how) not in (2, 3) or not is_number(how[-1]):
        return False
    slot = shapes.slot(shape, f)
    if how[0] == "own":
        return len(how) == 2 and how[1] == slot
    if len(how) != 3 or slot is not None:
        return False
    if how[0] == "up":
        return is_right_chain(shapes, f, shape, how[1]) and shapes.slot(how[1][-1][1], f) == how[2]
    return how[0] == "grow" and is_right_growth(shapes, f, shape, how)


def is_right_growth(shapes, f, shape, how):
    """Return whether putting f, which a shape does not contain, leads to the later shape and slot that are told."""
    _, later, slot = how
    root, names = shapes.shape(shape)
    if not is_index(later, len(shapes)) or slot != len(names):
        return False
    return shapes.shape(later) == (root, names + (f,))


def is_right_chain(shapes, f, shape, chain):
    """Return whether anything is a chain that leads from a shape without f, each root after the other, to f."""
    if not isinstance(chain, tuple) or not chain:
        return False
    if not all([is_right_link(shapes, link) for link in chain]):
        return False
    below = [shape] + [told for _, told in chain[:-1]]
    for number, link in zip(below, chain):
        if shapes.slot(number, f) is not None or shapes.shape(number)[0] != link[0]:
            return False
    return shapes.slot(chain[-1][1], f) is not None


def is_right_link(shapes, link):
    """Return whether anything is a pair of the number of an object and the number of a shape."""
    if not isinstance(link, tuple) or len(link) != 2:
        return False
    return is_number(link[0]) and is_index(link[1], len(shapes))
