"""Whether the parts of a state, each of which may be anything, are right (S3.1)."""

from shapeguess.errors import BadState
from shapeguess.naming import values_in
from shapeguess.plainobjects import MOST_ABOVE, count_above
from shapeguess.plainrows import CALLING
from shapeguess.values import is_index, is_value, is_word


def check_book(program, book):
    """Raise BadState if a book is not over the program's signature, or lacks one of its tokens."""
    if book.signature() != program.signature():
        raise BadState("book")
    for value in values_in(program.functions()):
        if value[0] == "tok" and not book.has_token(value):
            raise BadState("book")


def is_right_value(book, many, value):
    """Return whether anything is a value with tokens of the book and one of many objects."""
    if not is_value(value):
        return False
    if value[0] == "obj":
        return value[1] < many
    return value[0] != "tok" or book.has_token(value)


def are_right_values(book, many, values):
    """Return whether anything is a list of right values."""
    if not isinstance(values, (list, tuple)):
        return False
    return all([is_right_value(book, many, value) for value in values])


def are_right_objects(book, objects):
    """Return whether anything is a list of right objects."""
    if not isinstance(objects, (list, tuple)):
        return False
    if not all([is_right_object(book, len(objects), plain) for plain in objects]):
        return False
    return all([count_above(objects, number) <= MOST_ABOVE for number in range(len(objects))])


def is_right_object(book, many, plain):
    """Return whether anything is one of many objects, whatever is above it."""
    if not isinstance(plain, tuple) or len(plain) != 2 or not isinstance(plain[1], tuple):
        return False
    if plain[0] is not None and not is_index(plain[0], many):
        return False
    if not all([is_right_pair(book, many, pair) for pair in plain[1]]):
        return False
    return len(plain[1]) == len({pair[0] for pair in plain[1]})


def is_right_pair(book, many, pair):
    """Return whether anything is a field with a right value."""
    if not isinstance(pair, tuple) or len(pair) != 2:
        return False
    return is_word(pair[0]) and is_right_value(book, many, pair[1])


def are_right_globals(book, many, told):
    """Return whether anything is a dict from words to right values."""
    if not isinstance(told, dict):
        return False
    return all([is_right_pair(book, many, pair) for pair in told.items()])


def are_right_frames(book, codes, many, frames):
    """Return whether anything is a list of at least one right frame, all of which wait but the last one."""
    if not isinstance(frames, (list, tuple)) or not frames:
        return False
    if not all([is_right_frame(book, codes, many, frame) for frame in frames]):
        return False
    return all([codes[frame[0]].row(frame[1])[0] in CALLING for frame in frames[:-1]])


def is_right_frame(book, codes, many, frame):
    """Return whether anything is a frame of one of the functions in codes."""
    if not isinstance(frame, tuple) or len(frame) != 3 or not isinstance(frame[2], tuple):
        return False
    if not isinstance(frame[0], str) or frame[0] not in codes:
        return False
    code = codes[frame[0]]
    if not is_index(frame[1], len(code.rows())) or len(frame[2]) != code.registers():
        return False
    return are_right_values(book, many, frame[2])
