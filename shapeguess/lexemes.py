"""The lexemes of a text (S1.4)."""

from shapeguess.values import LETTERS, LONGEST_WORD, RESERVED, WORD_SIGNS

KEY_WORDS = (
    "call", "catch", "drop", "else", "fun", "if", "let", "new", "no", "none", "return", "show", "throw", "try",
    "while", "yes",
)
MARKS = "'$&!"
SIGNS = ".(),;{}"
DIGITS = "0123456789"
BLANKS = " \n"


def lexemes_of(text):
    """Return the lexemes of a text as tuples (kind, content, place).

    The kind is "word", "token", a mark, or the sign itself. The last one has the kind "end",
    or "bad" if no lexeme begins at its place.
    """
    found = []
    at = after_blanks(text, 0)
    while at < len(text):
        kind, content, end = lexeme_at(text, at)
        found.append((kind, content, at))
        if kind == "bad":
            return found
        at = after_blanks(text, end)
    found.append(("end", "", len(text)))
    return found


def after_blanks(text, at):
    """Return the first place from at on that has neither a blank nor a line feed."""
    while at < len(text) and text[at] in BLANKS:
        at += 1
    return at


def lexeme_at(text, at):
    """Return the tuple (kind, content, end) of the lexeme that begins at a place; its kind is "bad" if none does."""
    sign = text[at]
    if sign in SIGNS:
        return sign, "", at + 1
    if sign == "=":
        return ("==", "", at + 2) if text[at + 1:at + 2] == "=" else ("=", "", at + 1)
    if sign == "#":
        return token_at(text, at)
    start = at + 1 if sign in MARKS else at
    end = word_end(text, start)
    if end == start:
        return "bad", "", at
    return sign if sign in MARKS else "word", text[start:end], end


def token_at(text, at):
    """Return the tuple (kind, content, end) of the token whose # stands at a place; the content is a value."""
    colon = word_end(text, at + 1)
    kind = text[at + 1:colon]
    end = number_end(text, colon + 1)
    if kind == "" or kind in RESERVED or text[colon:colon + 1] != ":" or end == colon + 1:
        return "bad", "", at
    return "token", ("tok", kind, int(text[colon + 1:end])), end


def word_end(text, at):
    """Return the end of the plain word that begins at a place, or this place if none does."""
    if at >= len(text) or text[at] not in LETTERS:
        return at
    end = at
    while end < len(text) and text[end] in WORD_SIGNS:
        end += 1
    return end if end - at <= LONGEST_WORD else at


def number_end(text, at):
    """Return the end of the number that begins at a place, or this place if none does."""
    if text[at:at + 1] == "0":
        return at + 1
    end = at
    while end < len(text) and text[end] in DIGITS:
        end += 1
    return end
