"""Texts to trees: a parser that refuses the first lexeme that can follow in no text (S1.5, S1.7)."""

from shapeguess.errors import BadText
from shapeguess.lexemes import KEY_WORDS, lexemes_of

VALUE_WORDS = {"none": ("none",), "yes": ("bit", "yes"), "no": ("bit", "no")}
VALUE_MARKS = {"!": "err", "&": "fun"}


class Parser:
    """The lexemes of a text, and how many of them have been taken."""

    def __init__(self, text):
        self._lexemes = lexemes_of(text)
        self._at = 0

    def kind(self):
        """Return the kind of the next lexeme."""
        return self._lexemes[self._at][0]

    def key_word(self):
        """Return the next lexeme if it is a key word, otherwise an empty string."""
        kind, content, _ = self._lexemes[self._at]
        return content if kind == "word" and content in KEY_WORDS else ""

    def refuse(self):
        """Refuse the text at the next lexeme."""
        raise BadText(self._lexemes[self._at][2])

    def take(self, kind):
        """Take the next lexeme, which must be of this kind, and return its content."""
        if self.kind() != kind:
            self.refuse()
        self._at += 1
        return self._lexemes[self._at - 1][1]

    def take_key(self, word):
        """Take the next lexeme, which must be this key word."""
        if self.key_word() != word:
            self.refuse()
        self._at += 1

    def local(self):
        """Take the name of a local, a parameter or a primitive, where key words alone have the mark."""
        kind, content, _ = self._lexemes[self._at]
        if kind != "'" and kind != "word":
            self.refuse()
        if (kind == "'") != (content in KEY_WORDS):
            self.refuse()
        return self.take(kind)

    def functions(self):
        """Take a whole program and return the list of its functions."""
        found = []
        while self.kind() != "end":
            self.take_key("fun")
            name = self.take("word")
            parameters = self.listed(True)
            found.append((name, parameters, self.block()))
        return found

    def block(self):
        """Take statements with their curly brackets."""
        self.take("{")
        found = []
        while self.kind() != "}":
            found.append(self.statement())
        self.take("}")
        return tuple(found)

    def statement(self):
        """Take one statement."""
        word = self.key_word()
        if word == "if":
            return self.choice()
        if word == "while":
            self.take_key(word)
            condition = self.expression()
            return (word, condition, self.block())
        if word == "try":
            return self.attempt()
        tree = self.simple_statement(word)
        self.take(";")
        return tree

    def choice(self):
        """Take an if with its branches."""
        self.take_key("if")
        condition = self.expression()
        yes = self.block()
        if self.key_word() != "else":
            return ("if", condition, yes, ())
        self.take_key("else")
        return ("if", condition, yes, self.block())

    def attempt(self):
        """Take a try with its handler."""
        self.take_key("try")
        body = self.block()
        self.take_key("catch")
        name = self.local()
        return ("try", body, name, self.block())

    def simple_statement(self, word):
        """Take a statement that ends with a ; without this sign. word is its key word, if it begins with one."""
        if word == "let":
            self.take_key(word)
            name = self.local()
            self.take("=")
            return (word, name, self.expression())
        if word == "return" or word == "throw" or word == "show":
            self.take_key(word)
            return (word, self.expression())
        if word == "drop":
            self.take_key(word)
            tree, is_bare = self.part_of_same()
            if tree[0] != "get" or not is_bare:
                self.refuse()
            return (word, tree[1], tree[2])
        return self.expression_or_assignment()

    def expression_or_assignment(self):
        """Take a statement that begins with an expression, without the ; behind it."""
        tree, is_bare = self.part_of_same()
        if self.kind() != "=" or not is_bare or tree[0] not in ("get", "global"):
            return ("do", self.rest_of_same(tree))
        self.take("=")
        if tree[0] == "global":
            return ("put", tree[1], self.expression())
        return ("set", tree[1], tree[2], self.expression())

    def expression(self):
        """Take any expression."""
        tree, _ = self.part_of_same()
        return self.rest_of_same(tree)

    def rest_of_same(self, tree):
        """Take == and its second side, if they follow a first side, and return the whole expression."""
        if self.kind() != "==":
            return tree
        self.take("==")
        other, _ = self.part_of_same()
        return ("same", tree, other)

    def part_of_same(self):
        """Take an expression without == outside brackets; return it, and whether no brackets enclose the whole."""
        is_bare = self.kind() != "("
        tree = self.beginning()
        while self.kind() == ".":
            self.take(".")
            field = self.take("word")
            is_bare = True
            if self.kind() == "(":
                tree = ("method", tree, field, self.listed(False))
            else:
                tree = ("get", tree, field)
        return tree, is_bare

    def beginning(self):
        """Take an expression without . and == outside brackets."""
        word = self.key_word()
        if self.kind() == "(":
            return self.bracketed()
        if word == "new":
            self.take_key(word)
            return (word, self.bracketed())
        if word == "call":
            self.take_key(word)
            called = self.bracketed() if self.kind() == "(" else self.atom()
            return (word, called, self.listed(False))
        tree = self.atom()
        if tree[0] == "name" and self.kind() == "(":
            return ("prim", tree[1], self.operands())
        return tree

    def bracketed(self):
        """Take an expression in brackets."""
        self.take("(")
        tree = self.expression()
        self.take(")")
        return tree

    def atom(self):
        """Take a name, a global or a value."""
        kind = self.kind()
        if kind == "$":
            return ("global", self.take(kind))
        if kind == "token":
            return ("value", self.take(kind))
        if kind in VALUE_MARKS:
            return ("value", (VALUE_MARKS[kind], self.take(kind)))
        word = self.key_word()
        if word in VALUE_WORDS:
            self.take_key(word)
            return ("value", VALUE_WORDS[word])
        return ("name", self.local())

    def operands(self):
        """Take the one or two arguments of a primitive with their brackets."""
        self.take("(")
        found = [self.expression()]
        if self.kind() == ",":
            self.take(",")
            found.append(self.expression())
        self.take(")")
        return tuple(found)

    def listed(self, are_locals):
        """Take any number of locals or of expressions, separated by commas, with their brackets."""
        self.take("(")
        found = []
        while self.kind() != ")":
            if found:
                self.take(",")
            found.append(self.local() if are_locals else self.expression())
        self.take(")")
        return tuple(found)
