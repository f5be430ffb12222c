"""Questions about the values of a start, and what is settled by their answers (S8.3, S8.4)."""

from shapeguess.asking import answers_to, read_branch, read_question, read_term
from shapeguess.errors import BadPaper
from shapeguess.grounds import Ground


def stands(program, version, k, branch, question):
    """Return whether anything is a question that stands at a branch: True or False."""
    return read_question(read_branch(Ground(program, version), k, branch), question) is not None


def answers(program, version, k, branch, question):
    """Return the list of the answers to a question, which may be anything, at a branch."""
    told = read_branch(Ground(program, version), k, branch)
    asked = read_question(told, question)
    if asked is None:
        raise BadPaper()
    return answers_to(told, asked)


def settled_at(program, version, k, branch, term):
    """Return what a term stands for at a branch that is not impossible, or None if it is not settled."""
    told = read_branch(Ground(program, version), k, branch)
    asked = read_term(told, term, 0)
    return None if asked is None else told.meaning(asked)
