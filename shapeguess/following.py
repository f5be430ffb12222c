"""Which lists of facts contradict themselves, and what follows from a list (S6.3, S6.4)."""

from shapeguess.factparts import names_in, registers_in
from shapeguess.facts import fact_holds
from shapeguess.knowing import Known, kind_of_mark
from shapeguess.scenes import built_scene
from shapeguess.values import RESERVED


def contradictory(facts):
    """Return whether a list of facts is contradictory: True or False."""
    return Known(facts).is_contradictory()


def follows(facts, fact):
    """Return whether a fact follows from a list of facts: True or False."""
    return counter_scene(facts, fact) is None


def scene_of(facts):
    """Return a scene in which all facts of a list hold, or None if the list is contradictory."""
    if contradictory(facts):
        return None
    return built_scene(facts, None, names_of_all(facts), registers_up_to(facts))


def counter_scene(facts, fact):
    """Return a scene in which all facts of a list hold and another fact does not, or None if that one follows."""
    both = list(facts) + [fact]
    names = names_of_all(both)
    many = registers_up_to(both)
    for denial in denials(facts, fact, many):
        more = list(facts) + denial
        if not contradictory(more):
            scene = built_scene(more, fact, names, many)
            if not fact_holds(scene, fact):
                return scene
    return None


def denials(facts, fact, other):
    """Return lists of facts, where other is a register that no fact names.

    If a fact does not follow from a list, it does not hold in a built scene of this list and one of those.
    """
    word = fact[0]
    if word == "kind":
        return [[("kind", fact[1], kind)] for kind in kinds_told(facts) if kind != fact[2]]
    if word == "is":
        return [[("is", other, fact[2]), ("unlike", fact[1], other)]]
    if word == "same":
        return [[("unlike", fact[1], fact[2])]]
    if word == "unlike":
        return [[("same", fact[1], fact[2])]]
    # A built scene has no object of a shape, no field and no global as they are told in the fact but not in the list.
    return [[]]


def kinds_told(facts):
    """Return the list of the kinds in facts, and of those that are no kinds of tokens."""
    kinds = [fact[2] for fact in facts if fact[0] == "kind"]
    kinds.extend([kind_of_mark(fact[2]) for fact in facts if fact[0] == "is"])
    return list(RESERVED) + [kind for kind in kinds if kind not in RESERVED]


def names_of_all(facts):
    """Return the list of the names in facts, each once."""
    return list({name: True for fact in facts for name in names_in(fact)})


def registers_up_to(facts):
    """Return one more than the greatest register in facts."""
    return 1 + max([-1] + [place for fact in facts for place in registers_in(fact)])
