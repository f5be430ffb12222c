"""Verdicts: what two walks at a branch come to (S8.6, S8.7)."""

from shapeguess.asking import read_branch
from shapeguess.comparing import Comparison
from shapeguess.grounds import Ground
from shapeguess.termheld import Needed
from shapeguess.walking import PlainWalk, QuickWalk


def verdict(program, version, k, branch):
    """Return the verdict at a branch, which may be anything."""
    return judged(read_branch(Ground(program, version), k, branch))[0]


def judged(branch):
    """Return the pair of the verdict at a branch and, if it is open, a question whose answer is needed."""
    if branch.is_impossible():
        return ("impossible", None)
    try:
        loose = loose_pairs(branch)
    except Needed as need:
        return ("open", need.question)
    if loose is None:
        term = branch.first_loose()
        return ("unlike", None) if term is None else ("open", branch.settling(term))
    if loose:
        return ("open", question_of_pair(branch, loose[0]))
    return ("alike", None)


def loose_pairs(branch):
    """Return the list of the pairs of terms that must match but may differ still, or None if something is unlike."""
    quick = QuickWalk(branch)
    quick.go()
    if quick.outcome() == "stuck":
        return None
    facts_hold = quick.next_facts_hold()
    plain = PlainWalk(branch)
    plain.go(quick.steps())
    pairs = pairs_at_end(quick, plain)
    if pairs is None or not facts_hold:
        return None
    return Comparison(branch, quick.held(), plain.held()).loose_pairs(pairs)


def pairs_at_end(quick, plain):
    """Return the list of the pairs of terms in frames, returned values and arguments, or None if these are unlike."""
    if quick.outcome() == "return":
        returned = plain.returned()
        return None if returned is None else [(quick.term_at(quick.row()[2]), returned)]
    if quick.outcome() != "call":
        return frame_pairs(quick.told_frames(), plain.frames())
    called = plain.called()
    if called is None or called[0] != quick.called()[0]:
        return None
    pairs = frame_pairs(quick.told_frames(), plain.frames())
    return None if pairs is None else pairs + list(zip(quick.called()[1], called[1]))


def frame_pairs(told, frames):
    """Return the list of the pairs of terms in told and in plain frames, or None if the frames are unlike."""
    if [frame[:2] for frame in told] != [frame[:2] for frame in frames]:
        return None
    pairs = []
    for (_, _, terms), (_, _, places) in zip(told, frames):
        pairs.extend([(term, places[at]) for at, term in terms])
    return pairs


def question_of_pair(branch, pair):
    """Return a question about two terms that may be equal but do not match."""
    for term in pair:
        if branch.kind(term) is None:
            return ("kind", term)
    return branch.settling(pair[1] if branch.meaning(pair[0]) is not None else pair[0])
