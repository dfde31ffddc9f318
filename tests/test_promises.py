"""The promises of [3], over small, drawn and sample webs."""

import unittest

from samples import (FULL, LADDER, OVERFULL, WEBS, Draws, changed_lots, drawn_webs, pairs_of_webs,
                     plain_lot, plain_matches, plain_parents, plain_ways, small_webs, tower,
                     with_link_changed)
from wayrows.alike import distance, is_alike, match, paper
from wayrows.built import web_of
from wayrows.checker import is_paper
from wayrows.edits import grafted, spots, struck
from wayrows.errors import NoWeb
from wayrows.forms import form
from wayrows.holders import holders, kept
from wayrows.rows import is_beneath, lot, row
from wayrows.webs import children, is_mixing, is_tree, leaf_of, links, root, web_error

MANY = small_webs() + list(WEBS) + drawn_webs(40, 8) + [LADDER, tower(4, 4), tower(6, 2)]


def is_nowhere_above(low, high):
    """Whether no number of the one row is above that of the other one at the same place."""
    return all(a <= b for a, b in zip(low, high))


class TestRowsTellWhatLiesBeneath(unittest.TestCase):
    """(a)"""

    def test_all_pairs_of_kinds(self):
        seen = set()
        for web in MANY:
            told = [row(web, kind) for kind in range(root(web) + 1)]
            for kind, high in enumerate(told):
                for to, low in enumerate(told):
                    if kind != to:
                        by_child = is_mixing(web, kind) and to in children(web, kind)
                        expected = is_nowhere_above(low, high) and (low != high or by_child)
                        self.assertIs(is_beneath(web, kind, to), expected, (web, kind, to))
                        seen.add((expected, low == high, is_nowhere_above(low, high)))
        # All cases have come: a mixing and its child both ways about, and unlike rows.
        self.assertEqual(seen, {(True, True, True), (False, True, True), (True, False, True),
                                (False, False, False)})

    def test_against_ways_counted_one_by_one(self):
        for web in drawn_webs(24, 9):
            told = [row(web, kind) for kind in range(root(web) + 1)]
            above = plain_parents(web)
            for kind, high in enumerate(told):
                ends = {way[-1] for way in plain_ways(web, kind)}
                for to, low in enumerate(told):
                    if kind != to:
                        by_child = len(above[kind]) > 1 and kind in above[to]
                        expected = is_nowhere_above(low, high) and (low != high or by_child)
                        self.assertEqual(to in ends, expected)


class TestAlikeIfLotsAreEqual(unittest.TestCase):
    """(b)"""

    def test_alike_exactly_if_the_lots_are_equal(self):
        seen = set()
        for one, other in pairs_of_webs():
            equal = plain_lot(one) == plain_lot(other)
            seen.add(equal)
            self.assertEqual(len(plain_matches(one, other)), int(equal))
            self.assertIs(is_alike(one, other), equal)
            self.assertIs(match(one, other) is not None, equal)
        self.assertEqual(seen, {True, False})

    def test_a_match_or_a_row_that_parts(self):
        for one, other in pairs_of_webs():
            told = paper(one, other)
            self.assertIs(is_paper(one, other, told), True)
            self.assertEqual(told[0], "match" if is_alike(one, other) else "row")

    def test_distance_is_a_distance(self):
        for leaves in (2, 3, 4):
            webs = [web for web in small_webs() if web[0] == leaves]
            webs += drawn_webs(6, 34, leaves, leaves)
            far = {(one, other): distance(one, other) for one in webs for other in webs}
            for one in webs:
                for other in webs:
                    self.assertEqual(far[one, other] == 0, is_alike(one, other))
                    self.assertEqual(far[one, other], far[other, one])
                    for third in webs:
                        self.assertLessEqual(far[one, other], far[one, third] + far[third, other])


class TestLotsAreBuiltUpOrBarred(unittest.TestCase):
    """(c)"""

    def test_lots_of_webs(self):
        for web in MANY:
            told = web_of(web[0], lot(web))
            self.assertEqual(plain_lot(told), lot(web))
            self.assertIs(is_alike(told, web), True)

    def test_lots_of_webs_with_a_link_changed(self):
        for web in drawn_webs(12, 35):
            for value in with_link_changed(web):
                if web_error(value) is None:
                    self.assertEqual(lot(web_of(value[0], lot(value))), lot(value))

    def test_other_rows_are_barred_or_built_up_to_their_web(self):
        ends = set()
        for web in small_webs() + drawn_webs(24, 36):
            for value in changed_lots(lot(web)):
                try:
                    told = web_of(web[0], value)
                except NoWeb as error:
                    ends.add(error.word)
                else:
                    ends.add(None)
                    self.assertIsNone(web_error(told))
                    self.assertEqual(plain_lot(told), value)
        self.assertLessEqual({None, "leaf", "twice", "parents"}, ends)


class TestKindsAreHolders(unittest.TestCase):
    """(d)"""

    def test_all_kinds(self):
        for web in MANY:
            for kind in range(root(web) + 1):
                self.assertIn(kind, holders(web, leaf_of(web, kind)))
                self.assertIn(leaf_of(web, kind), kept(web, kind))

    def test_against_all_ways(self):
        for web in small_webs() + drawn_webs(24, 10) + [FULL]:
            found = plain_ways(web, root(web))
            for kind in range(root(web) + 1):
                told = [way for way in found if way[-1] == leaf_of(web, kind)]
                self.assertTrue(told)
                self.assertTrue(all(kind in way for way in told))


class TestEditsAreWebs(unittest.TestCase):
    """(e)"""

    def test_all_links_into_mixings(self):
        number = 0
        for web in MANY + drawn_webs(200, 97) + [OVERFULL]:
            for parent, child in links(web):
                if is_mixing(web, child):
                    number += 1
                    told = struck(web, parent, child)
                    self.assertIsNone(web_error(told), (web, parent, child))
                    self.assertEqual(told[0], web[0])
                    self.assertLess(len(links(told)), len(links(web)))
        self.assertGreater(number, 1000)

    def test_struck_until_a_tree_is_left(self):
        for web in MANY:
            while not is_tree(web):
                found = [link for link in links(web) if is_mixing(web, link[1])]
                web = struck(web, *found[len(found) // 2])
                self.assertIsNone(web_error(web))

    def test_pairs_of_spots(self):
        draws, number = Draws(94), 0
        for web in MANY:
            found = spots(web)
            for begin, end in draws.some(found, min(len(found), 40)):
                number += 1
                told = grafted(web, begin, end)
                self.assertIsNone(web_error(told), (web, begin, end))
                self.assertEqual((told[0], form(told)), (web[0], told))
        self.assertGreater(number, 1000)

    def test_one_behind_another(self):
        draws = Draws(95)
        for web in drawn_webs(16, 96, 2):
            for _ in range(6):
                found = spots(web)
                if found:
                    web = grafted(web, *draws.some(found, 1)[0])
                    self.assertIsNone(web_error(web))


if __name__ == "__main__":
    unittest.main()
