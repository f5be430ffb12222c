"""The forms of the parts of a program, and the first part that has none of them (S1.1, S1.2)."""

from shapeguess.values import is_value, is_word

# For each first word: what the part is, and then the roles of the members behind the word.
FORMS = {
    "name": ("expression", "word"),
    "global": ("expression", "word"),
    "value": ("expression", "constant"),
    "get": ("expression", "expression", "word"),
    "new": ("expression", "expression"),
    "prim": ("expression", "word", "operands"),
    "same": ("expression", "expression", "expression"),
    "call": ("expression", "expression", "expressions"),
    "method": ("expression", "expression", "word", "expressions"),
    "let": ("statement", "local", "expression"),
    "put": ("statement", "word", "expression"),
    "set": ("statement", "expression", "word", "expression"),
    "drop": ("statement", "expression", "word"),
    "if": ("statement", "expression", "statements", "statements"),
    "while": ("statement", "expression", "statements"),
    "return": ("statement", "expression"),
    "throw": ("statement", "expression"),
    "show": ("statement", "expression"),
    "do": ("statement", "expression"),
    "try": ("statement", "statements", "local", "statements"),
}
FUNCTION = ("word", "words", "statements")
GROUPS = {"words": "word", "expressions": "expression", "operands": "expression", "statements": "statement"}


def first_wrong_part(functions):
    """Return the path of the first wrong part of a list of functions, which may be anything, or None."""
    # A stack instead of recursion, so that it does not matter how deep a wrong tree is.
    todo = [((number,), "function", part) for number, part in enumerate(functions)][::-1]
    while todo:
        path, role, part = todo.pop()
        roles = roles_inside(role, part)
        if roles is None:
            return path
        inside = [(path + (number,), inner, part[number]) for number, inner in enumerate(roles)]
        todo.extend(inside[::-1])
    return None


def roles_inside(role, part):
    """Return the roles that the members of a part must have, or None if the part is wrong as a whole."""
    if role == "done":
        return ()
    if role == "word" or role == "local":
        return () if is_word(part) else None
    if role == "constant":
        return () if is_value(part) and part[0] != "obj" else None
    if not isinstance(part, tuple):
        return None
    if role == "function":
        return FUNCTION if len(part) == len(FUNCTION) else None
    if role in GROUPS:
        return roles_of_group(role, len(part))
    return roles_of_form(role, part)


def roles_of_group(role, many):
    """Return the roles of the members of a tuple of words, expressions or statements, or None."""
    if role == "operands" and many not in (1, 2):
        return None
    return (GROUPS[role],) * many


def roles_of_form(role, part):
    """Return the roles of the members of a tuple that must be an expression or a statement, or None."""
    if not part or not isinstance(part[0], str) or part[0] not in FORMS:
        return None
    form = FORMS[part[0]]
    if form[0] != role or len(form) != len(part):
        return None
    return ("done",) + form[1:]
