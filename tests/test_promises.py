"""The promises of [3], over small, drawn and sample webs."""

import unittest

from samples import (FULL, LADDER, WEBS, drawn_webs, plain_parents, plain_ways, small_webs, tower)
from wayrows.holders import holders, kept
from wayrows.rows import is_beneath, row
from wayrows.webs import children, is_mixing, leaf_of, root

MANY = small_webs() + list(WEBS) + drawn_webs(40, 8) + [LADDER, tower(4, 4), tower(6, 2)]


def is_nowhere_above(low, high):
    """Whether no number of the one row is above that of the other one at the same place."""
    return all(a <= b for a, b in zip(low, high))


class TestRowsTellWhatLiesBeneath(unittest.TestCase):
    """(a)"""

    def test_all_pairs_of_kinds(self):
        seen = set()
        for web in MANY:
            told = [row(web, kind) for kind in range(root(web) + 1)]
            for kind, high in enumerate(told):
                for to, low in enumerate(told):
                    if kind != to:
                        by_child = is_mixing(web, kind) and to in children(web, kind)
                        expected = is_nowhere_above(low, high) and (low != high or by_child)
                        self.assertIs(is_beneath(web, kind, to), expected, (web, kind, to))
                        seen.add((expected, low == high, is_nowhere_above(low, high)))
        # All cases have come: a mixing and its child both ways about, and unlike rows.
        self.assertEqual(seen, {(True, True, True), (False, True, True), (True, False, True),
                                (False, False, False)})

    def test_against_ways_counted_one_by_one(self):
        for web in drawn_webs(24, 9):
            told = [row(web, kind) for kind in range(root(web) + 1)]
            above = plain_parents(web)
            for kind, high in enumerate(told):
                ends = {way[-1] for way in plain_ways(web, kind)}
                for to, low in enumerate(told):
                    if kind != to:
                        by_child = len(above[kind]) > 1 and kind in above[to]
                        expected = is_nowhere_above(low, high) and (low != high or by_child)
                        self.assertEqual(to in ends, expected)


class TestKindsAreHolders(unittest.TestCase):
    """(d)"""

    def test_all_kinds(self):
        for web in MANY:
            for kind in range(root(web) + 1):
                self.assertIn(kind, holders(web, leaf_of(web, kind)))
                self.assertIn(leaf_of(web, kind), kept(web, kind))

    def test_against_all_ways(self):
        for web in small_webs() + drawn_webs(24, 10) + [FULL]:
            found = plain_ways(web, root(web))
            for kind in range(root(web) + 1):
                told = [way for way in found if way[-1] == leaf_of(web, kind)]
                self.assertTrue(told)
                self.assertTrue(all(kind in way for way in told))


if __name__ == "__main__":
    unittest.main()
