"""Case papers, which show that a point is closed (S8.8)."""

from shapeguess.asking import answers_to, read_question
from shapeguess.branches import first_branch
from shapeguess.grounds import Ground
from shapeguess.walks import judged

LEAVES = (("alike",), ("impossible",))


def first_wrong(program, version, k, paper):
    """Return the tuple (path, word) of the first wrong node of anything as a case paper, or None if it is right."""
    return wrong_node(Ground(program, version), k, paper)


def wrong_node(ground, k, paper):
    """Return what first_wrong returns."""
    todo = [((), first_branch(ground, k), paper)]
    while todo:
        path, branch, node = todo.pop()
        if node in LEAVES:
            if judged(branch)[0] != node[0]:
                return (path, "leaf")
        elif not is_question_node(node):
            return (path, "form")
        else:
            question = read_question(branch, node[1])
            if question is None:
                return (path, "question")
            told = answers_to(branch, question)
            if len(told) != len(node[2]):
                return (path, "answers")
            inside = [(path + (at,), branch.extended(question, told[at]), node[2][at]) for at in range(len(told))]
            todo.extend(inside[::-1])
    return None


def is_question_node(node):
    """Return whether anything has the form of a node that asks, whatever its question and its nodes are."""
    return isinstance(node, tuple) and len(node) == 3 and node[0] == "ask" and isinstance(node[2], tuple)


def judge_papers(program, version, papers):
    """Return None if anything is a list of right case papers for all points, or else where it is wrong first."""
    many = len(version.points())
    if not isinstance(papers, (list, tuple)) or len(papers) != many:
        return (many, (), "form")
    ground = Ground(program, version)
    for k in range(many):
        wrong = wrong_node(ground, k, papers[k])
        if wrong is not None:
            return (k,) + wrong
    return None
