"""Words and the values of the language, and their kinds (S2.1)."""

LETTERS = "abcdefghijklmnopqrstuvwxyz"
WORD_SIGNS = "abcdefghijklmnopqrstuvwxyz0123456789"
LONGEST_WORD = 12
RESERVED = ("none", "bit", "err", "fun", "obj")
NONE = ("none",)


def is_word(value):
    """Return whether anything is a word: True or False."""
    if not isinstance(value, str) or not 0 < len(value) <= LONGEST_WORD:
        return False
    return value[0] in LETTERS and all([sign in WORD_SIGNS for sign in value])


def are_different_words(value):
    """Return whether anything is a tuple of different words."""
    if not isinstance(value, tuple) or not all([is_word(word) for word in value]):
        return False
    return len(value) == len(set(value))


def is_kind_word(value):
    """Return whether anything is a word that may name a kind of tokens."""
    return is_word(value) and value not in RESERVED


def is_number(value):
    """Return whether anything is an integer of at least 0. True and False count as integers for Python alone."""
    return isinstance(value, int) and not isinstance(value, bool) and value >= 0


def is_index(value, many):
    """Return whether anything is a number below many."""
    return is_number(value) and value < many


def is_value(value):
    """Return whether anything is a value of the language: True or False."""
    if not isinstance(value, tuple):
        return False
    if len(value) == 1:
        return value == NONE
    if len(value) == 3:
        return value[0] == "tok" and is_kind_word(value[1]) and is_number(value[2])
    return len(value) == 2 and is_pair_value(value[0], value[1])


def is_pair_value(word, content):
    """Return whether (word, content) is a bit, an error, a function or an object."""
    if word == "bit":
        return content == "yes" or content == "no"
    if word == "err" or word == "fun":
        return is_word(content)
    return word == "obj" and is_number(content)


def kind_of(value):
    """Return the kind of a value."""
    return value[1] if value[0] == "tok" else value[0]


def bit(is_yes):
    """Return the bit that tells whether something is so."""
    return ("bit", "yes") if is_yes else ("bit", "no")
