"""Whether points are closed, with papers or starts that show it (S8.8 to S8.10)."""

from shapeguess.branches import first_branch
from shapeguess.building import start_of
from shapeguess.exploring import explored
from shapeguess.grounds import Ground
from shapeguess.quick import rows_behind_row
from shapeguess.termheld import Needed
from shapeguess.walking import QuickWalk
from shapeguess.walks import judged


class LikenessJudge:
    """Tells of branches whether the quick run and the plain run are alike; what is unlike is looked for."""

    def judged(self, branch):
        """Return a word and, if it is "open", a question."""
        word, question = judged(branch)
        return ("found" if word == "unlike" else word, question)


class BackJudge:
    """Tells of branches whether the quick walk goes back at a row; where it does so is looked for."""

    def __init__(self, version, number):
        self._number = number
        self._ahead = [row for row in range(len(version.rows())) if number in rows_behind_row(version, row)]

    def judged(self, branch):
        """Return a word and, if it is "open", a question."""
        if branch.is_impossible():
            return ("impossible", None)
        walk = QuickWalk(branch)
        try:
            walk.go()
        except Needed as need:
            is_ahead = walk.row_number() == self._number or walk.row_number() in self._ahead
            return ("open", need.question) if is_ahead else ("alike", None)
        if walk.outcome() != "back" or walk.row_number() != self._number:
            return ("alike", None)
        term = branch.first_loose()
        return ("found", None) if term is None else ("open", branch.settling(term))


def decide_point(program, version, k):
    """Return ("closed", paper) with a right case paper, or ("open", book, state, objects) with a start."""
    return decided(Ground(program, version), k)


def decided(ground, k):
    """Return what decide_point returns."""
    paper, found = explored(first_branch(ground, k), LikenessJudge())
    return ("closed", paper) if found is None else ("open",) + start_of(found)


def decide(program, version):
    """Return ("closed", papers), or ("open", k, book, state, objects) for the least point that is not closed."""
    ground = Ground(program, version)
    papers = []
    for k in range(len(version.points())):
        told = decided(ground, k)
        if told[0] == "open":
            return ("open", k) + told[1:]
        papers.append(told[1])
    return ("closed", papers)


def is_closed(program, version):
    """Return whether all points of a version are closed: True or False."""
    return decide(program, version)[0] == "closed"


def goes_back(program, version, k, number):
    """Return (book, state, objects) of a start of a point in which a row of its piece goes back, or None."""
    _, found = explored(first_branch(Ground(program, version), k), BackJudge(version, number))
    return None if found is None else start_of(found)
