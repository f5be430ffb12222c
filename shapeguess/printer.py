"""The one printed text of each program (S1.6)."""

from shapeguess.lexemes import KEY_WORDS

UNBRACKETED_CALLED = ("name", "global", "value")
MARK_OF = {"err": "!", "fun": "&"}


def print_program(program):
    """Return the text of a program."""
    lines = []
    for name, parameters, body in program.functions():
        told = ", ".join([local_text(parameter) for parameter in parameters])
        lines.append("fun " + name + "(" + told + ") {")
        lines.extend(inner_lines(body))
        lines.append("}")
    return "\n".join(lines)


def inner_lines(statements):
    """Return the lines of statements that stand inside curly brackets."""
    lines = []
    for statement in statements:
        lines.extend(["  " + line for line in statement_lines(statement)])
    return lines


def statement_lines(statement):
    """Return the lines of a statement, as they are outside of all curly brackets."""
    word = statement[0]
    if word == "if":
        return if_lines(statement)
    if word == "while":
        return ["while " + text_of(statement[1]) + " {"] + inner_lines(statement[2]) + ["}"]
    if word == "try":
        head = "} catch " + local_text(statement[2]) + " {"
        return ["try {"] + inner_lines(statement[1]) + [head] + inner_lines(statement[3]) + ["}"]
    return [simple_text(statement) + ";"]


def if_lines(statement):
    """Return the lines of an if."""
    lines = ["if " + text_of(statement[1]) + " {"] + inner_lines(statement[2])
    if statement[3]:
        lines = lines + ["} else {"] + inner_lines(statement[3])
    return lines + ["}"]


def simple_text(statement):
    """Return the text of a statement that ends with a ; without this sign."""
    word = statement[0]
    if word == "let":
        return "let " + local_text(statement[1]) + " = " + text_of(statement[2])
    if word == "put":
        return "$" + statement[1] + " = " + text_of(statement[2])
    if word == "set":
        return tight_text(statement[1]) + "." + statement[2] + " = " + text_of(statement[3])
    if word == "drop":
        return "drop " + tight_text(statement[1]) + "." + statement[2]
    if word == "do":
        return text_of(statement[1])
    return word + " " + text_of(statement[1])


def text_of(expression):
    """Return the text of an expression without brackets around it."""
    word = expression[0]
    if word == "name":
        return local_text(expression[1])
    if word == "global":
        return "$" + expression[1]
    if word == "value":
        return value_text(expression[1])
    if word == "get":
        return tight_text(expression[1]) + "." + expression[2]
    if word == "new":
        return "new(" + text_of(expression[1]) + ")"
    if word == "prim":
        return local_text(expression[1]) + arguments_text(expression[2])
    if word == "same":
        return tight_text(expression[1]) + " == " + tight_text(expression[2])
    if word == "call":
        return "call " + called_text(expression[1]) + arguments_text(expression[2])
    return tight_text(expression[1]) + "." + expression[2] + arguments_text(expression[3])


def tight_text(expression):
    """Return the text of a side of == or of the object before a dot, with brackets where necessary."""
    text = text_of(expression)
    return "(" + text + ")" if expression[0] == "same" else text


def called_text(expression):
    """Return the text of what a call calls, with brackets where necessary."""
    text = text_of(expression)
    return text if expression[0] in UNBRACKETED_CALLED else "(" + text + ")"


def arguments_text(arguments):
    """Return the text of arguments with their brackets."""
    return "(" + ", ".join([text_of(argument) for argument in arguments]) + ")"


def local_text(name):
    """Return the text of a local, a parameter or a primitive."""
    return "'" + name if name in KEY_WORDS else name


def value_text(value):
    """Return the text of a value that is not an object."""
    if value[0] == "tok":
        return "#" + value[1] + ":" + str(value[2])
    if value[0] in MARK_OF:
        return MARK_OF[value[0]] + value[1]
    return value[-1]
