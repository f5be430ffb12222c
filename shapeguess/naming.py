"""The names in a program: what its functions introduce and name, and whether that exists (S1.3)."""

from shapeguess.errors import NoFunction, TwiceTold, UnknownName
from shapeguess.forms import FORMS, GROUPS

NAMING = ("name", "prim", "value")


def events_in(body):
    """Return what a body introduces and names, in the order of S1.3.

    These are pairs of a word and what stands there: "local" for a name that is introduced,
    "name" for one that is used, "prim" for a primitive, "value" for a value.
    """
    events = []
    todo = [("statements", body)]
    while todo:
        role, part = todo.pop()
        if role == "local":
            events.append((role, part))
        elif role in GROUPS:
            todo.extend([(GROUPS[role], member) for member in part[::-1]])
        elif role == "expression" or role == "statement":
            if part[0] in NAMING:
                events.append((part[0], part[1]))
            todo.extend(members_in_order(part)[::-1])
    return events


def members_in_order(part):
    """Return the members of an expression or statement with their roles, as their names are introduced."""
    members = list(zip(FORMS[part[0]][1:], part[1:]))
    # The name of a let is introduced behind its expression, although it stands before it.
    return members[::-1] if part[0] == "let" else members


def locals_in(function):
    """Return the list of the locals of a function: the parameters, then the names as they are introduced."""
    names = {name: True for name in function[1]}
    for what, name in events_in(function[2]):
        if what == "local":
            names[name] = True
    return list(names)


def values_in(functions):
    """Return the list of the values that stand in functions, in order."""
    found = []
    for function in functions:
        found.extend([told for what, told in events_in(function[2]) if what == "value"])
    return found


def check_names(signature, functions):
    """Raise the first error of S1.3 for functions whose parts have the right form."""
    names = {}
    for name, parameters, body in functions:
        if name in names:
            raise TwiceTold(name)
        names[name] = True
        check_parameters(parameters)
        check_body(signature, parameters, body)
    for value in values_in(functions):
        if value[0] == "fun" and value[1] not in names:
            raise NoFunction(value[1])


def check_parameters(parameters):
    """Raise TwiceTold for the first parameter that equals an earlier one."""
    for number, name in enumerate(parameters):
        if name in parameters[:number]:
            raise TwiceTold(name)


def check_body(signature, parameters, body):
    """Raise UnknownName for the first local, primitive or kind of a body that does not exist."""
    known = {name: True for name in parameters}
    primitives = signature.primitives()
    for what, told in events_in(body):
        if what == "local":
            known[told] = True
        elif what == "name" and told not in known:
            raise UnknownName(told)
        elif what == "prim" and told not in primitives:
            raise UnknownName(told)
        elif what == "value" and told[0] == "tok" and not signature.has_kind(told[1]):
            raise UnknownName(told[1])
