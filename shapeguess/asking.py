"""Questions inside the package: how they are read from what may be anything, when they stand, and their answers (S8.3).

A question that was read has terms as the ground keeps them; told_question turns it into what is told outside.
"""

from shapeguess.branches import FURTHER, OTHER, UNSET, first_branch
from shapeguess.errors import BadPaper
from shapeguess.values import is_index, is_number, is_value, is_word

WITHOUT_WHICH = (None, "none", "bit", "unset")
# How deep equal arguments are told apart by what == takes for equal, as 1 and True.
STRICT_DEPTH = 8


def told_question(ground, question):
    """Return a question as it is told outside."""
    if question[0] in ("kind", "bit", "which"):
        return (question[0], ground.told(question[1]))
    return question


def read_question(branch, value):
    """Return the question for which anything stands, or None if it is not one that stands at the branch."""
    if branch.is_impossible() or not isinstance(value, tuple) or len(value) not in (2, 3):
        return None
    if len(value) != (3 if value[0] == "has" else 2):
        return None
    if value[0] in ("kind", "bit", "which"):
        return read_question_of_term(branch, value)
    return value if is_question_of_object(branch, value) else None


def read_question_of_term(branch, value):
    """Return the question about a term for which a pair stands, or None."""
    word, told = value
    term = read_term(branch, told, 0)
    if term is None or term[0] == "value" or term[0] == "known":
        return None
    kind = branch.kind(term)
    if word == "kind":
        stands = has_open_kind(branch, term)
    elif word == "bit":
        stands = kind == "bit"
    else:
        stands = kind not in WITHOUT_WHICH
    return (word, term) if stands else None


def has_open_kind(branch, term):
    """Return whether the kind of a term may be asked for."""
    if term[0] == "global":
        return term[1] in branch.ground().globals_of_rows()
    if term[0] == "field":
        return bool(branch.has(term[1], term[2]))
    return term[0] == "start"


def is_question_of_object(branch, value):
    """Return whether a tuple of the right length is a question about a known object that stands at the branch."""
    word, o = value[:2]
    if word not in ("shape", "has", "parent") or not is_index(o, branch.many_known("obj")):
        return False
    if word == "shape":
        return True
    if branch.shape(o) != OTHER:
        return False
    return word == "parent" or (is_word(value[2]) and branch.ground().is_field(value[2]))


def read_term(branch, value, depth):
    """Return the term for which anything stands, or None if it is none at the branch. It stands this deep in a term."""
    if not isinstance(value, tuple) or len(value) not in (2, 3):
        return None
    word = value[0]
    if word == "variant":
        return read_variant(branch, value, depth)
    if word == "field":
        is_term = len(value) == 3 and is_index(value[1], branch.many_known("obj")) and is_word(value[2])
        return value if is_term else None
    if len(value) != 2:
        return None
    if word == "start":
        is_term = is_number(value[1]) and branch.point().has_start(value[1])
        return branch.point().start_at(value[1]) if is_term else None
    if word == "value":
        is_term = is_value(value[1]) and branch.ground().meaning_of_value(value[1]) is not None
    elif word == "known":
        is_term = is_index(value[1], branch.many_known("obj"))
    else:
        is_term = word == "global" and is_word(value[1])
    return value if is_term else None


def read_variant(branch, value, depth):
    """Return the variant term for which a tuple stands, or None."""
    ground = branch.ground()
    if len(value) != 3 or not isinstance(value[2], tuple) or not ground.has_variant(value[1]):
        return None
    kinds = ground.signature().variant(value[1])[1]
    args = []
    for arg in value[2]:
        # Two equal arguments at each of many levels would else be read so often that it has no end.
        is_read = depth > STRICT_DEPTH and len(args) > 0 and arg == value[2][0]
        args.append(args[0] if is_read else read_term(branch, arg, depth + 1))
    if None in args or tuple([branch.kind(arg) for arg in args]) != kinds:
        return None
    return ground.variant_term(value[1], tuple(args))


def answers_to(branch, question):
    """Return the list of the answers to a question that stands."""
    word, told = question[:2]
    if word == "kind":
        return branch.ground().kinds() + ([UNSET] if told[0] == "global" else [])
    if word == "which":
        return list(range(branch.many_known(branch.kind(told)))) + [FURTHER]
    if word == "shape":
        return branch.ground().candidates() + [OTHER]
    if word == "parent":
        return ["none"] + list(range(branch.many_known("obj"))) + [FURTHER]
    return ["yes", "no"]


def is_answer(branch, question, value):
    """Return whether anything is one of the answers to a question that stands."""
    return not isinstance(value, bool) and value in answers_to(branch, question)


def read_branch(ground, k, value):
    """Return the branch for which anything stands; raise BadPaper if it is none."""
    if not isinstance(value, (list, tuple)):
        raise BadPaper()
    branch = first_branch(ground, k)
    for pair in value:
        if not isinstance(pair, tuple) or len(pair) != 2:
            raise BadPaper()
        question = read_question(branch, pair[0])
        if question is None or not is_answer(branch, question, pair[1]):
            raise BadPaper()
        branch = branch.extended(question, pair[1])
    return branch
