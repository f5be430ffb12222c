"""Trees of questions, one asked after the other as they are needed (S8.8)."""

from shapeguess.asking import answers_to, told_question


class Asked:
    """A question that was asked at a branch, with its answers and the nodes of those that were gone through."""

    def __init__(self, branch, question):
        self._branch = branch
        self._question = question
        self._answers = answers_to(branch, question)
        self._nodes = []

    def is_done(self):
        """Return whether there is a node for each answer."""
        return len(self._nodes) == len(self._answers)

    def next_branch(self):
        """Return the branch of the first answer that has no node yet."""
        return self._branch.extended(self._question, self._answers[len(self._nodes)])

    def take(self, node):
        """Take the node of the first answer that had none."""
        self._nodes.append(node)

    def node(self):
        """Return the node of the question."""
        return ("ask", told_question(self._branch.ground(), self._question), tuple(self._nodes))


def explored(branch, judge):
    """Return the pair of a tree of all that follows from a branch and None, or of None and a branch that was found.

    judge.judged tells of a branch a word and a question: the question is asked if the word is "open", the branch is
    found if it is "found", and else the word is a leaf.
    """
    # The questions above the branch. There may be more than calls may be nested.
    asked = []
    while True:
        word, question = judge.judged(branch)
        if word == "found":
            return None, branch
        if word == "open":
            asked.append(Asked(branch, question))
        else:
            node = (word,)
            while asked:
                asked[-1].take(node)
                if not asked[-1].is_done():
                    break
                node = asked.pop().node()
            if not asked:
                return node, None
        branch = asked[-1].next_branch()
