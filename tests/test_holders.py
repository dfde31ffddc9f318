"""Holders: kinds that no way goes round."""

import copy
import unittest
from fractions import Fraction
from itertools import combinations
from math import gcd

from samples import (ABOVE, CHERRY, FLAT, FULL, LADDER, ONE, OVERFULL, THREE, W, WEBS, drawn_webs,
                     plain_children, plain_ways, small_webs, tower)
from wayrows.holders import fraction, holders, kept, meeting
from wayrows.webs import leaf_of, road, root

TREE = (4, ((0, 1), (2, 4), (3, 5)))


def subsets(leaves):
    """All ascending tuples of one or more leaves."""
    return [some for many in range(1, leaves + 1) for some in combinations(range(leaves), many)]


class TestHolders(unittest.TestCase):
    def test_document(self):
        self.assertEqual([holders(W, 1), kept(W, 4), meeting(W, (0, 1)), fraction(W, 4, 1)],
                         [(1, 3, 6), (0,), 6, (1, 2)])

    def test_one_leaf(self):
        self.assertEqual(holders(ONE, 0), (0,))
        self.assertEqual(kept(ONE, 0), (0,))
        self.assertEqual(meeting(ONE, (0,)), 0)
        self.assertEqual(fraction(ONE, 0, 0), (1, 1))

    def test_holders_of_w(self):
        self.assertEqual([holders(W, leaf) for leaf in range(3)],
                         [(0, 4, 6), (1, 3, 6), (2, 5, 6)])

    def test_trees(self):
        self.assertEqual([holders(TREE, leaf) for leaf in range(4)],
                         [(0, 4, 5, 6), (1, 4, 5, 6), (2, 5, 6), (3, 6)])
        self.assertEqual([kept(TREE, kind) for kind in range(7)],
                         [(0,), (1,), (2,), (3,), (0, 1), (0, 1, 2), (0, 1, 2, 3)])
        self.assertEqual(holders(FLAT, 5), (5, 8))
        self.assertEqual(kept(FLAT, 8), tuple(range(8)))
        self.assertEqual(holders(CHERRY, 1), (1, 2))

    def test_mixings_with_two_parents_and_more(self):
        self.assertEqual(holders(THREE, 0), (0, 4, 8))
        self.assertEqual(holders(THREE, 1), (1, 5, 8))
        self.assertEqual([holders(ABOVE, leaf) for leaf in range(3)],
                         [(0, 3, 4, 6), (1, 3, 4, 6), (2, 5, 6)])
        self.assertEqual([holders(LADDER, leaf) for leaf in range(4)],
                         [(0, 5, 6, 9), (1, 4, 9), (2, 7, 9), (3, 8, 9)])
        self.assertEqual(holders(tower(2, 3), 0), (0, 3, 6, 7, 10))

    def test_leaf_and_root_are_holders(self):
        for web in WEBS:
            for leaf in range(web[0]):
                told = holders(web, leaf)
                self.assertEqual((told[0], told[-1]), (leaf, root(web)))


class TestKept(unittest.TestCase):
    def test_kept(self):
        self.assertEqual([kept(W, kind) for kind in range(7)],
                         [(0,), (1,), (2,), (1,), (0,), (2,), (0, 1, 2)])
        self.assertEqual([kept(ABOVE, kind) for kind in range(7)],
                         [(0,), (1,), (2,), (0, 1), (0, 1), (2,), (0, 1, 2)])
        self.assertEqual([kept(THREE, kind) for kind in range(4, 9)],
                         [(0,), (1,), (2,), (3,), (0, 1, 2, 3)])
        self.assertEqual([kept(LADDER, kind) for kind in range(4, 10)],
                         [(1,), (0,), (0,), (2,), (3,), (0, 1, 2, 3)])

    def test_the_leaf_at_the_end_of_the_road_at_least(self):
        for web in WEBS + (LADDER, TREE, tower(4, 4)):
            for kind in range(root(web) + 1):
                self.assertIn(leaf_of(web, kind), kept(web, kind))

    def test_root_keeps_all_and_a_leaf_itself_alone(self):
        for web in WEBS + (LADDER, TREE, tower(6, 2)):
            self.assertEqual(kept(web, root(web)), tuple(range(web[0])))
            for leaf in range(web[0]):
                self.assertEqual(kept(web, leaf), (leaf,))


class TestMeeting(unittest.TestCase):
    def test_one_leaf_is_its_own_meeting(self):
        for web in WEBS + (LADDER, TREE):
            for leaf in range(web[0]):
                self.assertEqual(meeting(web, (leaf,)), leaf)

    def test_two_and_more_leaves(self):
        self.assertEqual([meeting(W, some) for some in ((0, 1), (0, 2), (1, 2), (0, 1, 2))],
                         [6, 6, 6, 6])
        self.assertEqual([meeting(TREE, some) for some in ((0, 1), (0, 2), (1, 2), (0, 3))],
                         [4, 5, 5, 6])
        self.assertEqual([meeting(ABOVE, some) for some in ((0, 1), (0, 2), (1, 2))], [3, 6, 6])
        self.assertEqual(meeting(TREE, (0, 1, 2)), 5)
        self.assertEqual(meeting(FLAT, (1, 6)), 8)
        self.assertEqual(meeting((3, ((0, 1), (2, 3))), (0, 1)), 3)
        # Neither the mixing nor the plain kind beneath it: leaf 1 has another kind above it.
        self.assertEqual(meeting(LADDER, (0, 1)), 9)

    def test_all_leaves(self):
        for web in WEBS + (LADDER, TREE):
            self.assertEqual(meeting(web, tuple(range(web[0]))), root(web))

    def test_eight_leaves_and_many_kinds(self):
        web = (8, ((1,), (0, 8), (2, 8), (9, 10), (4,), (3, 12), (5, 12), (13, 14), (7,), (6, 16),
                   (16, 15), (17, 18), (11, 19)))
        self.assertEqual(meeting(web, (0, 1, 2, 3, 4, 5, 6, 7)), 20)
        self.assertEqual([meeting(web, some) for some in ((0, 1, 2), (0, 1), (3, 5), (4, 7), (3, 6, 7))],
                         [11, 11, 15, 19, 19])
        self.assertEqual([meeting(web, (leaf,)) for leaf in range(8)], list(range(8)))


class TestFraction(unittest.TestCase):
    def test_parts(self):
        self.assertEqual([fraction(W, kind, 1) for kind in range(7)],
                         [(0, 1), (1, 1), (0, 1), (1, 1), (1, 2), (1, 2), (1, 1)])
        self.assertEqual([fraction(THREE, kind, 0) for kind in range(4, 9)],
                         [(1, 1), (1, 3), (1, 3), (1, 3), (1, 1)])
        self.assertEqual([fraction(LADDER, kind, 1) for kind in range(4, 10)],
                         [(1, 1), (2, 3), (2, 3), (1, 3), (2, 3), (1, 1)])
        self.assertEqual(fraction(LADDER, 8, 0), (1, 2))

    def test_lowest_terms(self):
        # Of the four ways to leaf 0, one, two, three and four go by these kinds.
        self.assertEqual([fraction(tower(1, 4), kind, 0) for kind in range(3, 7)],
                         [(1, 4), (1, 2), (3, 4), (1, 1)])
        self.assertEqual(fraction(tower(4, 4), 7, 0), (1, 2))
        self.assertEqual(fraction(tower(4, 4), 23, 0), (3, 4))

    def test_none_and_all(self):
        for web in WEBS:
            for leaf in range(web[0]):
                self.assertEqual(fraction(web, root(web), leaf), (1, 1))
                self.assertEqual(fraction(web, leaf, leaf), (1, 1))
                for other in range(web[0]):
                    if other != leaf:
                        self.assertEqual(fraction(web, other, leaf), (0, 1))
        self.assertEqual(fraction(W, 5, 0), (0, 1))
        self.assertEqual(fraction(W, 3, 2), (0, 1))


class TestAllWebs(unittest.TestCase):
    """Small and drawn webs against the document's words written out plainly."""

    def setUp(self):
        self.webs = small_webs() + list(WEBS[:-1]) + drawn_webs(32, 7) + [LADDER, tower(3, 2)]

    def test_against_all_ways(self):
        for web in self.webs:
            found = plain_ways(web, max(plain_children(web)))
            held = {}
            for leaf in range(web[0]):
                told = [set(way) for way in found if way[-1] == leaf]
                held[leaf] = set.intersection(*told)
                self.assertEqual(holders(web, leaf), tuple(sorted(held[leaf])))
                for kind in plain_children(web):
                    part = Fraction(sum(kind in way for way in told), len(told))
                    self.assertEqual(fraction(web, kind, leaf), (part.numerator, part.denominator))
            for kind in plain_children(web):
                self.assertEqual(kept(web, kind),
                                 tuple(leaf for leaf in held if kind in held[leaf]))
            for some in subsets(web[0]):
                expected = min(set.intersection(*[held[leaf] for leaf in some]))
                self.assertEqual(meeting(web, some), expected)

    def test_kinds_of_values(self):
        for web in self.webs:
            top = root(web)
            for kind in range(top + 1):
                self.assertIs(type(kept(web, kind)), tuple)
                told = fraction(web, kind, 0)
                self.assertEqual((type(told), len(told)), (tuple, 2))
                self.assertEqual((type(told[0]), type(told[1])), (int, int))
                self.assertEqual(gcd(*told), 1)
                self.assertGreaterEqual(told[1], 1)
            self.assertIs(type(holders(web, 0)), tuple)
            self.assertIs(type(meeting(web, (0,))), int)

    def test_somewhat_beyond_the_bounds(self):
        self.assertEqual(holders(OVERFULL, 7), (7, 14, 28))
        self.assertEqual(fraction(OVERFULL, 27, 7), (1, 2))
        self.assertEqual(meeting(OVERFULL, tuple(range(8))), 28)

    def test_webs_stay_as_they_were_and_answers_the_same(self):
        def answers(web):
            return [(holders(web, leaf_of(web, kind)), kept(web, kind), fraction(web, kind, 0),
                     meeting(web, (leaf_of(web, kind),)), road(web, kind))
                    for kind in range(root(web) + 1)]

        webs = self.webs + [FULL]
        before = copy.deepcopy(webs)
        first = [answers(web) for web in webs]
        again = [answers(web) for web in webs[::-1]]
        self.assertEqual(first, again[::-1])
        self.assertEqual(webs, before)


if __name__ == "__main__":
    unittest.main()
