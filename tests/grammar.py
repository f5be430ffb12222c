"""S1.4 and S1.5 a second time, as a grammar: tells where a text is refused by trying all ways to read it."""

import re

KEY_WORDS = "call catch drop else fun if let new no none return show throw try while yes".split()
RESERVED = ("none", "bit", "err", "fun", "obj")
WORD = r"[a-z][a-z0-9]{0,11}(?![a-z0-9])"
LEXEMES = (
    ("token", re.compile("#(" + WORD + "):(0|[1-9][0-9]*)")),
    ("mark", re.compile("(['$&!])(" + WORD + ")")),
    ("plain", re.compile(WORD)),
    ("sign", re.compile(r"==|[.(),;{}=]")),
)

# Each line is one rule. Small letters and signs are lexemes, "any" is a plain word or a key word, "is" is the sign =.
RULES = """
Program = | Program Function
Function = fun any ( Params ) Block
Params = | Locals
Locals = Local | Locals , Local
Local = word | quoted
Block = { Statements }
Statements = | Statements Statement
Statement = let Local is Expr ; | global is Expr ; | Get is Expr ;
Statement = drop Get ; | return Expr ; | throw Expr ; | show Expr ; | Expr ;
Statement = if Expr Block | if Expr Block else Block | while Expr Block | try Block catch Local Block
Get = Tight . any
Expr = Tight | Tight == Tight
Tight = Local | global | value | Get | new ( Expr ) | Local ( Expr ) | Local ( Expr , Expr )
Tight = call Called Args | Tight . any Args | ( Expr )
Called = Local | global | value | ( Expr )
Args = ( ) | ( List )
List = Expr | List , Expr
"""


def rules():
    found = {}
    for line in RULES.strip().splitlines():
        left, right = line.split(" = ") if " = " in line else line.split(" =")
        for choice in right.split("|"):
            found.setdefault(left, []).append(tuple("=" if word == "is" else word for word in choice.split()))
    return found


GRAMMAR = rules()


def lexemes(text):
    """The lexemes as pairs of a place and the set of what they can be in the grammar: nothing where none begins."""
    at = 0
    found = []
    while True:
        while at < len(text) and text[at] in " \n":
            at += 1
        if at == len(text):
            return found
        names, end = lexeme(text, at)
        found.append((at, names))
        if not names:
            return found
        at = end


def lexeme(text, at):
    for kind, pattern in LEXEMES:
        match = pattern.match(text, at)
        if match:
            names = names_of(kind, match)
            return names, match.end()
    return set(), at


def names_of(kind, match):
    if kind == "token":
        return set() if match.group(1) in RESERVED else {"value"}
    if kind == "sign":
        return {match.group()}
    if kind == "mark":
        mark, word = match.groups()
        if mark == "'":
            # A lexeme, but one that can stand nowhere if the word is no key word.
            return {"quoted"} if word in KEY_WORDS else {"misquoted"}
        return {"global"} if mark == "$" else {"value"}
    word = match.group()
    if word not in KEY_WORDS:
        return {"any", "word"}
    return {"any", word, "value"} if word in ("none", "yes", "no") else {"any", word}


def closed_column(columns, at):
    """Complete a column of items (left, words, dot, origin) by the rules of Earley."""
    column = columns[at]
    todo = list(column)
    while todo:
        left, words, dot, origin = todo.pop()
        if dot == len(words):
            found = [(l, w, d + 1, o) for l, w, d, o in columns[origin] if d < len(w) and w[d] == left]
        elif words[dot] in GRAMMAR:
            found = [(words[dot], choice, 0, at) for choice in GRAMMAR[words[dot]]]
            # What may be empty is passed over at once.
            if () in GRAMMAR[words[dot]]:
                found.append((left, words, dot + 1, origin))
        else:
            found = []
        for item in found:
            if item not in column:
                column.add(item)
                todo.append(item)


def refused_at(text):
    """The place at which a text is refused, or None if it is the text of a program, whatever its names are."""
    columns = [{("Start", ("Program",), 0, 0)}]
    closed_column(columns, 0)
    for place, names in lexemes(text):
        here = columns[-1]
        columns.append({(l, w, d + 1, o) for l, w, d, o in here if d < len(w) and w[d] in names})
        if not columns[-1]:
            return place
        closed_column(columns, len(columns) - 1)
    return None if ("Start", ("Program",), 1, 0) in columns[-1] else len(text)
