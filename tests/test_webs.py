"""The functions over webs, and roads."""

import copy
import unittest

from samples import (ABOVE, BROAD, CHERRY, FLAT, FULL, ONE, OVERFULL, THREE, W, WEBS,
                     plain_children, plain_parents, plain_ways, small_webs)
from wayrows.webs import (beneath, children, is_binary, is_mixing, is_tree, leaf_of, links,
                          mixings, parents, road, root, web_error)


class TestExample(unittest.TestCase):
    def test_document(self):
        found = [web_error(W), root(W), mixings(W), beneath(W, 4), links(W)[:3],
                 web_error((3, ((1,), (0, 3), (2, 3), (3, 4, 5))))]
        self.assertEqual(found, [None, 6, (3,), (0, 1, 3), ((3, 1), (4, 0), (4, 3)), None])


class TestWebs(unittest.TestCase):
    def test_root(self):
        self.assertEqual([root(web) for web in WEBS], [6, 0, 2, 6, 8, 9, 8, 27])

    def test_children(self):
        self.assertEqual([children(W, kind) for kind in range(7)],
                         [(), (), (), (1,), (0, 3), (2, 3), (4, 5)])
        self.assertEqual(children(ONE, 0), ())
        self.assertEqual(children(FLAT, 8), (0, 1, 2, 3, 4, 5, 6, 7))
        self.assertEqual(children(FLAT, 7), ())
        self.assertEqual(children(BROAD, 7), (0, 2, 5, 6))

    def test_parents(self):
        self.assertEqual([parents(W, kind) for kind in range(7)],
                         [(4,), (3,), (5,), (4, 5), (6,), (6,), ()])
        self.assertEqual(parents(ONE, 0), ())
        self.assertEqual(parents(THREE, 4), (5, 6, 7))
        self.assertEqual(parents(ABOVE, 4), (5, 6))
        self.assertEqual(parents(BROAD, 6), (7, 9))
        self.assertEqual(parents(FULL, 14), (20, 27))

    def test_links(self):
        self.assertEqual(links(W), ((3, 1), (4, 0), (4, 3), (5, 2), (5, 3), (6, 4), (6, 5)))
        self.assertEqual(links(ONE), ())
        self.assertEqual(links(CHERRY), ((2, 0), (2, 1)))
        self.assertEqual(links(FLAT), tuple((8, leaf) for leaf in range(8)))

    def test_mixings(self):
        self.assertEqual([mixings(web) for web in WEBS],
                         [(3,), (), (), (4,), (4,), (5, 6), (), (8, 9, 10, 11, 12, 13, 14)])

    def test_is_mixing(self):
        self.assertIs(is_mixing(W, 3), True)
        self.assertIs(is_mixing(W, 1), False)
        self.assertIs(is_mixing(W, 6), False)
        self.assertIs(is_mixing(ONE, 0), False)
        self.assertIs(is_mixing(THREE, 4), True)

    def test_beneath(self):
        self.assertEqual([beneath(W, kind) for kind in range(7)],
                         [(), (), (), (1,), (0, 1, 3), (1, 2, 3), (0, 1, 2, 3, 4, 5)])
        self.assertEqual(beneath(ONE, 0), ())
        self.assertEqual(beneath(ABOVE, 4), (0, 1, 3))
        self.assertEqual(beneath(ABOVE, 5), (0, 1, 2, 3, 4))
        self.assertEqual(beneath(THREE, 6), (0, 2, 4))
        self.assertEqual(beneath(FULL, 27), tuple(range(27)))

    def test_is_binary(self):
        self.assertEqual([is_binary(web) for web in WEBS],
                         [True, True, True, True, False, False, False, False])
        # Just one thing in each web is not twofold: a plain kind, or a mixing.
        self.assertIs(is_binary((3, ((0, 1, 2),))), False)
        self.assertIs(is_binary((4, ((0,), (1, 4), (2, 4), (3, 4), (5, 6), (7, 8)))), False)
        self.assertIs(is_binary((3, ((0, 1), (2, 3)))), True)

    def test_is_tree(self):
        self.assertEqual([is_tree(web) for web in WEBS],
                         [False, True, True, False, False, False, True, False])
        self.assertIs(is_tree((3, ((0, 1, 2),))), True)

    def test_truths_are_true_or_false(self):
        for web in WEBS:
            for found in (is_binary(web), is_tree(web), is_mixing(web, root(web))):
                self.assertIs(type(found), bool)

    def test_somewhat_beyond_the_bounds(self):
        self.assertEqual(root(OVERFULL), 28)
        self.assertEqual(len(mixings(OVERFULL)), 7)
        self.assertIs(is_binary(OVERFULL), True)
        self.assertEqual(leaf_of(OVERFULL, 28), 0)


class TestRoads(unittest.TestCase):
    def test_leaf_by_itself(self):
        self.assertEqual([road(W, leaf) for leaf in range(3)], [(0,), (1,), (2,)])
        self.assertEqual(road(ONE, 0), (0,))
        self.assertEqual(leaf_of(ONE, 0), 0)
        self.assertEqual(leaf_of(FLAT, 7), 7)

    def test_mixing_as_first_kind(self):
        self.assertEqual(road(W, 3), (3, 1))
        self.assertEqual(road(ABOVE, 4), (4, 3, 0))
        self.assertEqual(leaf_of(ABOVE, 4), 0)

    def test_least_child_is_a_mixing(self):
        self.assertEqual(road(ABOVE, 6), (6, 5, 2))
        self.assertEqual(leaf_of(ABOVE, 6), 2)
        # The mixing stands ahead of two plain children.
        self.assertEqual(road(BROAD, 9), (9, 7, 0))
        self.assertEqual(leaf_of(BROAD, 9), 0)

    def test_least_plain_child_of_several(self):
        self.assertEqual(road(FLAT, 8), (8, 0))
        self.assertEqual(road(W, 6), (6, 4, 0))
        self.assertEqual(road(THREE, 8), (8, 5, 1))
        self.assertEqual(road((3, ((1, 2), (0, 3))), 4), (4, 0))

    def test_all_roads(self):
        self.assertEqual([road(W, kind) for kind in range(7)],
                         [(0,), (1,), (2,), (3, 1), (4, 0), (5, 2), (6, 4, 0)])
        self.assertEqual([leaf_of(W, kind) for kind in range(7)], [0, 1, 2, 1, 0, 2, 0])


class TestSmallWebs(unittest.TestCase):
    """All small webs and the samples against the document's words written out plainly."""

    def setUp(self):
        self.webs = small_webs() + list(WEBS[:-1])

    def test_kinds_and_links(self):
        for web in self.webs:
            below, above = plain_children(web), plain_parents(web)
            mixed = tuple(kind for kind in sorted(below) if len(above[kind]) > 1)
            self.assertEqual(root(web), max(below))
            self.assertEqual(mixings(web), mixed)
            self.assertEqual(links(web), tuple(sorted(
                (upper, kind) for upper in below for kind in below[upper])))
            for kind in below:
                self.assertEqual(children(web, kind), below[kind])
                self.assertEqual(parents(web, kind), above[kind])
                self.assertIs(is_mixing(web, kind), kind in mixed)

    def test_beneath(self):
        for web in self.webs:
            for kind in plain_children(web):
                ends = {way[-1] for way in plain_ways(web, kind)}
                self.assertEqual(beneath(web, kind), tuple(sorted(ends - {kind})))

    def test_truths(self):
        for web in self.webs:
            below, above = plain_children(web), plain_parents(web)
            plain = [kind for kind in below if len(above[kind]) < 2 and below[kind]]
            mixed = [kind for kind in below if len(above[kind]) >= 2]
            self.assertIs(is_tree(web), not mixed)
            self.assertIs(is_binary(web), {len(below[kind]) for kind in plain} <= {2}
                          and {len(above[kind]) for kind in mixed} <= {2})

    def test_roads(self):
        for web in self.webs:
            below, above = plain_children(web), plain_parents(web)
            for kind in below:
                told = road(web, kind)
                self.assertEqual(told[0], kind)
                self.assertEqual(below[told[-1]], ())
                self.assertEqual(leaf_of(web, kind), told[-1])
                for here, there in zip(told, told[1:]):
                    plain = [child for child in below[here] if len(above[child]) < 2]
                    self.assertEqual(there, min(plain))

    def test_tuples_at_every_depth(self):
        for web in self.webs:
            for kind in plain_children(web):
                for told in (children(web, kind), parents(web, kind), beneath(web, kind),
                             road(web, kind), links(web), mixings(web)):
                    self.assertIs(type(told), tuple)
                    self.assertEqual({type(item) for item in told} - {int, tuple}, set())

    def test_webs_stay_as_they_were_and_answers_the_same(self):
        def answers(web):
            return [(children(web, kind), parents(web, kind), beneath(web, kind),
                     road(web, kind), links(web), mixings(web), is_binary(web), is_tree(web))
                    for kind in range(root(web) + 1)]

        kept = copy.deepcopy(self.webs)
        first = [answers(web) for web in self.webs]
        again = [answers(web) for web in self.webs[::-1]]
        self.assertEqual(first, again[::-1])
        self.assertEqual(self.webs, kept)


if __name__ == "__main__":
    unittest.main()
