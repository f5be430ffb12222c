"""Case papers (S8.8); shapeguess/papers.py."""

import unittest

from pieces import S0, S1, Piece
from samples import STRANGE, YES
from shapeguess.deciding import decide, decide_point
from shapeguess.papers import first_wrong, judge_papers
from shapeguess.questions import answers
from shapeguess.shapes import Shapes
from shapeguess.walks import verdict

ALIKE, IMPOSSIBLE = ("alike",), ("impossible",)
PIECE = Piece("fun main(a, b) {let c = a.f; show b; return c;}")
KINDS = ["none", "bit", "err", "fun", "obj", "num", "col"]


def version(facts=(), **more):
    return PIECE.version([("get", 2, 0, "f", PIECE.end(0, 0)), ("link", 1, 1)], facts, points=[(1, ())], **more)


def ask(question, *nodes):
    return ("ask", question, nodes)


def nodes_of(paper, path=()):
    """The nodes of a paper with their paths, each ahead of its own nodes."""
    found = [(path, paper)]
    if paper[0] == "ask":
        for number, node in enumerate(paper[2]):
            found += nodes_of(node, path + (number,))
    return found


def with_node(paper, path, node):
    """The paper with another node at a path."""
    if not path:
        return node
    nodes = paper[2]
    inside = with_node(nodes[path[0]], path[1:], node)
    return paper[:2] + (nodes[:path[0]] + (inside,) + nodes[path[0] + 1:],)


class PaperTest(unittest.TestCase):
    version = version()

    def wrong(self, expected, paper, version=None, k=0):
        self.assertEqual(first_wrong(PIECE.program, version or self.version, k, paper), expected)

    def right_paper(self, version=None, k=0):
        told = decide_point(PIECE.program, version or self.version, k)
        self.assertEqual(told[0], "closed")
        return told[1]


class Leaves(PaperTest):
    def test_leaves_alone(self):
        self.wrong(None, ALIKE, k=1)
        self.wrong(((), "leaf"), IMPOSSIBLE, k=1)
        # The walks of point 0 need something.
        self.wrong(((), "leaf"), ALIKE)
        self.wrong(((), "leaf"), IMPOSSIBLE)
        impossible = version([("unlike", 1, 1)])
        self.wrong(None, IMPOSSIBLE, impossible)
        self.wrong(((), "leaf"), ALIKE, impossible)

    def test_unlike_is_no_leaf(self):
        bad = PIECE.version([("const", 2, YES), ("link", 2, 1)], points=[(1, ())])
        self.wrong(((), "form"), ("unlike",), bad)
        self.wrong(((), "form"), ("open",))

    def test_forms(self):
        for value in STRANGE + (Shapes(), self.version, PIECE.program, "alike", ["alike"], ("alike", ()),
                                ("alike", "alike"), (ALIKE,), ("ask",),
                                ("ask", ("shape", 0)), ("ask", ("shape", 0), [ALIKE]), ("ask", ("shape", 0), None),
                                ("asks", ("shape", 0), (ALIKE,)),
                                ["ask", ("shape", 0), (ALIKE,)], ("ask", ("shape", 0), (ALIKE,), ()),
                                (["ask"], ("shape", 0), (ALIKE,)), (0, 0, ())):
            self.wrong(((), "form"), value, k=1)
            self.wrong(((0,), "form"), ask(("kind", S1), *[value] * 7), k=1)


class Questions(PaperTest):
    def test_needless_questions(self):
        once = ask(("kind", S1), *[ALIKE] * 7)
        self.wrong(None, once, k=1)
        # Asked a second time, a question has one answer that fits the first one.
        twice = ask(("kind", S1), *[ask(("kind", S1), *[ALIKE if at == first else IMPOSSIBLE for at in range(7)])
                                    for first in range(7)])
        self.wrong(None, twice, k=1)
        self.wrong(((0, 1), "leaf"), ask(("kind", S1), *[once] * 7), k=1)
        bits = ask(("kind", S1), ALIKE, ask(("bit", S1), ALIKE, ALIKE), *[ALIKE] * 5)
        self.wrong(None, bits, k=1)

    def test_questions_that_do_not_stand(self):
        for question in STRANGE + (("bit", S1), ("which", S1), ("shape", 0), ("kind", ("start", 7)), ["kind", S1],
                                   ("kind", list(S1)), ("kind", S1, 0)):
            self.wrong(((), "question"), ("ask", question, ()), k=1)
            self.wrong(((), "question"), ("ask", question, (ALIKE,) * 7), k=1)
        # It stands at other branches only.
        paper = ask(("kind", S1), *[ask(("bit", S1), ALIKE, ALIKE)] * 7)
        self.wrong(((0,), "question"), paper, k=1)
        # Nothing stands where it is impossible.
        self.wrong(((), "question"), ask(("kind", S1), *[IMPOSSIBLE] * 7), version([("unlike", 1, 1)]))

    def test_numbers_of_nodes(self):
        for many in (0, 1, 6, 8, 20):
            self.wrong(((), "answers"), ask(("kind", S1), *[ALIKE] * many), k=1)
            # The number comes ahead of what is wrong in the nodes.
            self.wrong(((), "answers"), ask(("kind", S1), *[None] * many), k=1)
        self.wrong(((), "answers"), ask(("kind", ("global", "g")), *[ALIKE] * 7),
                   version(watched=[("global", "g", YES)]))
        self.wrong(((3,), "answers"), ask(("kind", S1), *[ALIKE] * 3, ask(("which", S1), ALIKE), *[ALIKE] * 3), k=1)

    def test_the_first_wrong_node(self):
        bad = ask(("bit", S1), ALIKE)
        self.wrong(((1,), "answers"), ask(("kind", S1), ALIKE, bad, bad, None, *[IMPOSSIBLE] * 3), k=1)
        self.wrong(((2,), "question"), ask(("kind", S1), ALIKE, ALIKE, bad, None, *[IMPOSSIBLE] * 3), k=1)
        self.wrong(((3,), "form"), ask(("kind", S1), *[ALIKE] * 3, None, *[IMPOSSIBLE] * 3), k=1)
        self.wrong(((4,), "leaf"), ask(("kind", S1), *[ALIKE] * 4, *[IMPOSSIBLE] * 3), k=1)
        # A node comes ahead of its own ones, and these ahead of the next node.
        inner = ask(("which", S1), *[IMPOSSIBLE] * 9)
        self.wrong(((2, 0), "leaf"), ask(("kind", S1), ALIKE, ALIKE, inner, None, *[ALIKE] * 3), k=1)
        self.wrong(((), "question"), ask(None, None), k=1)


class WholePapers(PaperTest):
    def test_each_node_bent(self):
        paper = self.right_paper()
        self.wrong(None, paper)
        every = nodes_of(paper)
        self.assertGreater(len(every), 15)
        for path, node in every:
            self.wrong((path, "form"), with_node(paper, path, None))
            self.wrong((path, "form"), with_node(paper, path, list(node)))
            if node in (ALIKE, IMPOSSIBLE):
                self.wrong((path, "leaf"), with_node(paper, path, IMPOSSIBLE if node == ALIKE else ALIKE))
            else:
                self.wrong((path, "leaf"), with_node(paper, path, ALIKE))
                self.wrong((path, "question"), with_node(paper, path, ("ask", ("kind", ("start", 8)), node[2])))
                self.wrong((path, "answers"), with_node(paper, path, ("ask", node[1], node[2][:-1])))
                self.wrong((path, "answers"), with_node(paper, path, ("ask", node[1], node[2] + (ALIKE,))))
                self.wrong((path, "form"), with_node(paper, path, ("ask", node[1], list(node[2]))))

    def test_leaves_have_the_verdicts_of_their_branches(self):
        made = version([("shape", 0, ("n", ("f",)))], names=["n"])
        paper = self.right_paper(made)
        for path, node in nodes_of(paper):
            branch, at = [], paper
            for number in path:
                branch.append((at[1], answers(PIECE.program, made, 0, branch, at[1])[number]))
                at = at[2][number]
            self.assertEqual(verdict(PIECE.program, made, 0, branch), node[0] if node[0] != "ask" else "open")

    def test_deep_papers(self):
        """A question that is asked again and again makes a paper that is nested deep."""
        paper = ask(("kind", S1), *[ALIKE] * 7)
        for _ in range(150):
            paper = ask(("kind", S1), paper, *[IMPOSSIBLE] * 6)
        self.wrong(((0,) * 149 + (0, 1), "leaf"), ask(("kind", S1), paper[2][0], *[ALIKE] * 6), k=1)
        first = ask(("kind", S1), *[paper if at == 0 else ALIKE for at in range(7)])
        self.wrong((((0,) * 151 + (1,)), "leaf"), first, k=1)

    def test_nothing_is_changed(self):
        paper = self.right_paper()
        self.assertEqual(paper, self.right_paper())
        self.wrong(None, paper)
        self.assertEqual(paper, self.right_paper())


class SeveralPapers(PaperTest):
    def judge(self, expected, papers, version=None):
        self.assertEqual(judge_papers(PIECE.program, version or self.version, papers), expected)

    def test_right_ones(self):
        papers = [self.right_paper(), ALIKE]
        self.judge(None, papers)
        self.judge(None, tuple(papers))
        self.judge(None, decide(PIECE.program, self.version)[1])
        self.judge(None, [papers[0], ask(("kind", S1), *[ALIKE] * 7)])

    def test_too_few_too_many_no_list(self):
        papers = [self.right_paper(), ALIKE]
        for wrong in (papers[:1], papers[1:], papers + [ALIKE], [], (), None, 2, "ab", {},
                      {0: papers[0], 1: papers[1]}, Shapes(), self.version, True):
            self.judge((2, (), "form"), wrong)

    def test_the_first_wrong_paper(self):
        right = self.right_paper()
        self.judge((0, (), "leaf"), [ALIKE, ALIKE])
        self.judge((0, (), "form"), [None, None])
        self.judge((1, (), "form"), [right, None])
        self.judge((1, (), "form"), [right, [ALIKE]])
        self.judge((1, (), "leaf"), (right, IMPOSSIBLE))
        self.judge((1, (), "question"), [right, right[:1] + (("bit", S0),) + right[2:]])
        self.judge((1, (2,), "leaf"), [right, ask(("kind", S1), ALIKE, ALIKE, IMPOSSIBLE, *[ALIKE] * 4)])
        self.judge((0, (1,), "answers"), [right[:2] + ((right[2][0], ask(("bit", S0), ALIKE)) + right[2][2:],), ALIKE])


if __name__ == "__main__":
    unittest.main()
