"""Lists of plain objects, which are tuples (parent, fields), and what rows do with them (S3.1 to S3.3)."""

MOST_ABOVE = 2


def look_up_in(objects, number, field):
    """Return the tuple (holder, value) of the look-up of a field from an object of the list, or None."""
    while number is not None:
        parent, fields = objects[number]
        for name, value in fields:
            if name == field:
                return (number, value)
        number = parent
    return None


def count_above(objects, number):
    """Return how many objects are above an object; where it is more than allowed, perhaps without an end, one more."""
    above = 0
    parent = objects[number][0]
    while parent is not None and above <= MOST_ABOVE:
        above = above + 1
        parent = objects[parent][0]
    return above


def has_field(plain, field):
    """Return whether an object itself has a field."""
    return any([name == field for name, _ in plain[1]])


def with_field(plain, field, value):
    """Return an object with this value in a field, which is the last one if the object did not have it."""
    parent, fields = plain
    if not has_field(plain, field):
        return (parent, fields + ((field, value),))
    return (parent, tuple([(name, value if name == field else old) for name, old in fields]))


def without_field(plain, field):
    """Return an object without one of its fields."""
    parent, fields = plain
    return (parent, tuple([pair for pair in fields if pair[0] != field]))
