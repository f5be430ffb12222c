"""Which plain rows can be finished in scenes of a list of facts, and which facts they can break (S6.5, S6.6)."""

from shapeguess.factparts import registers_in, with_register
from shapeguess.following import contradictory, follows, registers_up_to
from shapeguess.knowing import Known
from shapeguess.plainrows import CALLING, read_by, written_by
from shapeguess.scenes import Fresh
from shapeguess.values import bit


def can_finish(signature, facts, row):
    """Return whether a plain row is finished in some scene in which all facts of a list hold: True or False."""
    return len(cases_of(signature, facts, row)) > 0


def broken_by(signature, facts, row):
    """Return the list of the facts of a list that a plain row can break."""
    cases = cases_of(signature, facts, row)
    result = result_register(facts, row)
    return [fact for fact in facts if any([can_break(case, row, result, fact) for case in cases])]


def result_register(facts, row):
    """Return a register that stands for what a row writes, so that what was there before keeps its own."""
    return max([registers_up_to(facts)] + [place + 1 for place in read_by(row)])


def cases_of(signature, facts, row):
    """Return the possible cases in which a row is finished: for each the list of all that is known in it.

    What is written is told of the result register; a case that tells nothing of it means an unknown value.
    """
    facts = list(facts)
    found = []
    for more in additions(signature, facts, row, result_register(facts, row)):
        if not contradictory(facts + more):
            found.append(facts + more)
    return found


def additions(signature, facts, row, result):
    """Return for each case in which a row might be finished the list of the facts that it adds to a list."""
    word = row[0]
    if word == "const":
        return [[("is", result, row[2])]]
    if word == "move":
        return [[("same", result, row[2])]]
    if word == "global":
        marks = Known(facts).global_marks()
        return [[("is", result, marks[row[2]])]] if row[2] in marks else [[]]
    if word == "same":
        return [[(sign, row[2], row[3]), ("is", result, bit(sign == "same"))] for sign in ("same", "unlike")]
    if word == "prim":
        return additions_of_variants(signature, row, result)
    if word == "new":
        return additions_of_new(facts, row, result)
    if word == "get" or word == "method":
        return additions_of_look_up(facts, row, result)
    if word == "set" or word == "drop":
        return additions_of_change(facts, row)
    if word == "test":
        return [[("kind", row[1], "bit")]]
    if word == "call":
        return [[("kind", row[2], "fun")]]
    return [] if word == "return" or word == "throw" else [[]]


def additions_of_variants(signature, row, result):
    """Return the cases of a prim, one for each variant with as many arguments."""
    found = []
    for _, kinds, told in signature.variants(row[2]):
        if len(kinds) == len(row[3]):
            arguments = [("kind", place, kind) for place, kind in zip(row[3], kinds)]
            found.append(arguments + [("kind", result, told)])
    return found


def additions_of_new(facts, row, result):
    """Return the cases of a new: below none, and below an object."""
    # A new object differs from every value that was there.
    places = sorted({place for fact in facts for place in registers_in(fact)})
    unlike = [("unlike", result, place) for place in places]
    below_none = [("kind", row[2], "none"), ("shape", result, (None, ()))]
    # An object without a name gets one here, so that the way up from the new object is told.
    name = Known(facts).name_at(row[2])
    if name is None:
        name = Fresh([facts]).new_word()
    below_object = [("is", row[2], ("name", name)), ("shape", result, (name, ()))]
    return [below_none + unlike, below_object + unlike]


def additions_of_look_up(facts, row, result):
    """Return the cases, one or none, of a get or a method."""
    is_object = ("kind", row[2], "obj")
    is_found, mark = look_up_known(Known(facts), row[2], row[3])
    if not is_found:
        return []
    if mark is None:
        return [[is_object]]
    if row[0] == "get":
        return [[is_object, ("is", result, mark)]]
    return [[is_object]] if mark[0] == "fun" else []


def look_up_known(known, place, field):
    """Return whether a look-up from an object in a register may find a field, and its mark, or None if it may be any.

    What is known does not contradict itself, or else it does not matter what is returned.
    """
    name = known.name_at(place)
    shape = known.shape_at(place)
    for _ in range(len(known.facts()) + 1):
        if name is not None and field in known.slots_of(name):
            return (True, known.slots_of(name)[field])
        if shape is None or field in shape[1]:
            return (True, None)
        if shape[0] is None:
            return (False, None)
        name = shape[0]
        shape = known.shape_of(name)
    return (False, None)


def additions_of_change(facts, row):
    """Return the cases, one or none, of a set or a drop."""
    is_object = ("kind", row[1], "obj")
    if row[0] == "drop":
        shape = Known(facts).shape_at(row[1])
        if shape is not None and row[2] not in shape[1]:
            return []
    return [[is_object]]


def can_break(case, row, result, fact):
    """Return whether a row that is finished in a case, whose result has its own register, can break a fact."""
    written = written_by(row)
    if written in registers_in(fact):
        return not follows(case, with_register(fact, written, result))
    if row[0] in CALLING:
        return fact[0] in ("shape", "holds", "slot", "global")
    if row[0] == "put":
        return fact[0] == "global" and fact[1] == row[1] and not follows(case, ("is", row[2], fact[2]))
    if row[0] == "set" or row[0] == "drop":
        return can_break_object(case, row, fact)
    return False


def can_break_object(case, row, fact):
    """Return whether a set or a drop that is finished in a case can break a fact."""
    if fact[0] == "shape" or fact[0] == "holds":
        # A set adds a field that was not there, and a drop takes one that was.
        if (row[2] in fact[2][1]) != (row[0] == "drop"):
            return False
        touch = ("same", fact[1], row[1]) if fact[0] == "shape" else ("is", row[1], ("name", fact[1]))
        return not contradictory(case + [touch])
    if fact[0] != "slot" or fact[2] != row[2]:
        return False
    touched = case + [("is", row[1], ("name", fact[1]))]
    if row[0] == "drop":
        return not contradictory(touched)
    return not follows(touched, ("is", row[3], fact[3]))
