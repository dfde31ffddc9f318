"""The document's examples, as they stand there, one behind another."""

import doctest
import unittest

EXAMPLES = """
[4]

    >>> from wayrows.webs import beneath, links, mixings, root, web_error
    >>> W = (3, ((1,), (0, 3), (2, 3), (4, 5)))
    >>> [web_error(W), root(W), mixings(W), beneath(W, 4), links(W)[:3], web_error((3, ((1,), (0, 3), (2, 3), (3, 4, 5))))]
    [None, 6, (3,), (0, 1, 3), ((3, 1), (4, 0), (4, 3)), None]

[6]

    >>> from wayrows.rows import lot, row, ways
    >>> [row(W, 6), ways(W, 6, 3), lot(W)]
    [(1, 2, 1), 2, ((0, 0, 1), (0, 1, 0), (0, 1, 0), (0, 1, 1), (1, 0, 0), (1, 1, 0), (1, 2, 1))]

[8]

    >>> from wayrows.holders import fraction, holders, kept, meeting
    >>> [holders(W, 1), kept(W, 4), meeting(W, (0, 1)), fraction(W, 4, 1)]
    [(1, 3, 6), (0,), 6, (1, 2)]

[9]

    >>> from wayrows.alike import distance, paper
    >>> V = (3, ((1,), (2, 3), (0, 3), (4, 5)))
    >>> [paper(W, V), distance(W, V), paper(W, (3, ((0, 1), (2, 3)))), distance(W, (3, ((0, 1), (2, 3))))]
    [('match', (0, 1, 2, 3, 5, 4, 6)), 0, ('row', (0, 1, 0), 2, 1), 4]

[11]

    >>> from wayrows.built import parts, web_of
    >>> [web_of(3, lot(W)) == (3, ((1,), (2, 3), (0, 3), (4, 5))), parts(3, lot(W))[2]]
    [True, ((1, 2, 1), ((0, 1, 1), (1, 1, 0)))]

[13]

    >>> from wayrows.trees import backed, choices, hard, soft, tree, trees
    >>> [choices(W), tree(W, (0,)), trees(W), hard(W), backed(W, (0, 1))]
    [2, ((0, 1), (0, 1, 2)), (((0, 1), (0, 1, 2)), ((0, 1, 2), (1, 2))), ((0, 1), (0, 1, 2), (1, 2)), (1, 2)]

[15]

    >>> from wayrows.edits import grafted, struck
    >>> from wayrows.forms import form
    >>> [struck(W, 5, 3), grafted((3, ((0, 1), (2, 3))), ("on", 4, 2), ("on", 3, 1)) == form(W)]
    [(3, ((0, 1), (2, 3))), True]

[19]

    >>> from wayrows.texts import read_web, web_text
    >>> [web_text(W), read_web("((#7,2),(0,(1)#7));") == form(W)]
    ['((2,(1)#0),(0,#0));', True]
"""


class TestDocument(unittest.TestCase):
    def test_examples(self):
        example = doctest.DocTestParser().get_doctest(EXAMPLES, {}, "document", None, 0)
        found = doctest.DocTestRunner().run(example)
        self.assertEqual((found.attempted, found.failed), (19, 0))


if __name__ == "__main__":
    unittest.main()
