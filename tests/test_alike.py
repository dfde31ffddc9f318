"""Matches, papers, distances and the nearest web."""

import copy
import unittest

from samples import (ABOVE, BROAD, CHERRY, FLAT, FULL, LADDER, ONE, OVERFULL, THREE, W, WEBS, Draws,
                     drawn_webs, numbered_otherwise, numberings, pairs_of_webs, plain_lot,
                     plain_matches, small_webs, tower)
from wayrows.alike import distance, is_alike, match, nearest, paper
from wayrows.errors import OtherLeaves, WebError
from wayrows.forms import form, renamed
from wayrows.webs import root

V = (3, ((1,), (2, 3), (0, 3), (4, 5)))
TREE = (3, ((0, 1), (2, 3)))
STAR = (3, ((0, 1, 2),))
# A mixing above leaf 0 with two parents and with three; and one above leaf 1.
TWO_WAYS = (2, ((0,), (1, 2), (2, 3)))
THREE_WAYS = (2, ((0,), (1, 2), (2, 3), (2, 4)))
TURNED = (2, ((1,), (0, 2), (2, 3)))


def plain_parting(one, other):
    """All rows that stand not as often in both lots, with the numbers of times, in order."""
    first, second = plain_lot(one), plain_lot(other)
    return [("row", row, first.count(row), second.count(row))
            for row in sorted(set(first) | set(second)) if first.count(row) != second.count(row)]


class TestMatch(unittest.TestCase):
    def test_document(self):
        self.assertEqual([paper(W, V), distance(W, V), paper(W, TREE), distance(W, TREE)],
                         [("match", (0, 1, 2, 3, 5, 4, 6)), 0, ("row", (0, 1, 0), 2, 1), 4])

    def test_webs_with_themselves(self):
        for web in WEBS + (LADDER,):
            same = tuple(range(root(web) + 1))
            self.assertEqual(match(web, web), same)
            self.assertEqual(paper(web, web), ("match", same))
            self.assertIs(is_alike(web, web), True)
            self.assertEqual(distance(web, web), 0)

    def test_numbered_otherwise(self):
        for web in (W, ABOVE, THREE, BROAD, LADDER, tower(2, 3)):
            for other in numberings(web):
                self.assertEqual([match(web, other)], plain_matches(web, other))
                self.assertIs(is_alike(web, other), True)
        draws = Draws(13)
        for web in drawn_webs(24, 14) + [FULL, tower(4, 4)]:
            other = numbered_otherwise(web, draws)
            self.assertEqual([match(web, other)], plain_matches(web, other))
            self.assertEqual(paper(web, other), ("match", match(web, other)))

    def test_mixing_and_child_with_equal_rows(self):
        # Kinds 3 and 4 are the child and its mixing in the one, 4 and 5 in the other.
        other = (4, ((2, 3), (0, 1), (5,), (4, 6), (6, 7)))
        one = (4, ((0, 1), (4,), (2, 3), (5, 6), (5, 7)))
        self.assertEqual(match(one, other), (0, 1, 2, 3, 5, 6, 4, 7, 8))
        self.assertEqual(match(other, one), (0, 1, 2, 3, 6, 4, 5, 7, 8))

    def test_leaves_exchanged(self):
        # What is left is alike only where the two leaves stand alike.
        self.assertEqual(match(W, renamed(W, (2, 1, 0))), (0, 1, 2, 3, 5, 4, 6))
        self.assertIsNone(match(W, renamed(W, (1, 0, 2))))
        self.assertIs(is_alike(TREE, (3, ((0, 2), (1, 3)))), False)
        self.assertIs(is_alike(TWO_WAYS, TURNED), False)
        self.assertIs(is_alike(THREE, renamed(THREE, (0, 3, 2, 1))), True)

    def test_a_link_more(self):
        self.assertIsNone(match(W, (3, ((1,), (0, 3), (2, 3), (3, 4, 5)))))
        self.assertIs(is_alike(W, (3, ((1,), (0, 3), (2, 3), (3, 4, 5)))), False)
        self.assertIsNone(match(TWO_WAYS, THREE_WAYS))

    def test_truths(self):
        for one, other in pairs_of_webs():
            self.assertIs(type(is_alike(one, other)), bool)

    def test_against_all_matches_by_trying(self):
        for one, other in pairs_of_webs():
            found = plain_matches(one, other)
            self.assertLessEqual(len(found), 1)
            self.assertEqual(match(one, other), found[0] if found else None)
            self.assertIs(is_alike(one, other), bool(found))

    def test_tuples(self):
        for one, other in pairs_of_webs():
            told = match(one, other)
            if told is not None:
                self.assertEqual((type(told), {type(kind) for kind in told}), (tuple, {int}))


class TestPaper(unittest.TestCase):
    def test_first_row_with_both_numbers_either_way_about(self):
        self.assertEqual(paper(W, TREE), ("row", (0, 1, 0), 2, 1))
        self.assertEqual(paper(TREE, W), ("row", (0, 1, 0), 1, 2))
        self.assertEqual(paper(STAR, TREE), ("row", (1, 1, 0), 0, 1))
        self.assertEqual(paper(TREE, STAR), ("row", (1, 1, 0), 1, 0))
        self.assertEqual(paper(CHERRY, TWO_WAYS), ("row", (1, 0), 1, 2))
        self.assertEqual(paper(TWO_WAYS, TURNED), ("row", (0, 1), 1, 2))
        self.assertEqual(paper(TWO_WAYS, THREE_WAYS), ("row", (3, 1), 0, 1))

    def test_against_all_parting_rows(self):
        for one, other in pairs_of_webs():
            rows = plain_parting(one, other)
            if rows:
                self.assertEqual(paper(one, other), rows[0])
                self.assertEqual((type(paper(one, other)), type(rows[0][1])), (tuple, tuple))
            else:
                self.assertEqual(paper(one, other), ("match", match(one, other)))


class TestDistance(unittest.TestCase):
    def test_by_hand(self):
        self.assertEqual(distance(STAR, TREE), 1)
        # Rows (1, 0) once more, and (2, 1).
        self.assertEqual(distance(CHERRY, TWO_WAYS), 2)
        self.assertEqual(distance(TWO_WAYS, THREE_WAYS), 1)
        # Rows (1, 0) and (2, 1) on the one side, (0, 1) and (1, 2) on the other.
        self.assertEqual(distance(TWO_WAYS, TURNED), 4)
        self.assertEqual(distance(TREE, (3, ((0, 2), (1, 3)))), 2)
        self.assertEqual(distance(W, TREE), 4)
        self.assertEqual(distance(ONE, ONE), 0)

    def test_a_row_that_stands_twice_on_one_side_alone(self):
        # (1, 1, 0) twice, (2, 2, 1) and (1, 1, 1) here; once, and (1, 1, 1), there.
        self.assertEqual(distance(ABOVE, TREE), 2)
        # There it does not stand at all, so it counts for two.
        self.assertEqual(distance(ABOVE, STAR), 3)

    def test_against_all_parting_rows(self):
        for one, other in pairs_of_webs():
            expected = sum(abs(a - b) for _, _, a, b in plain_parting(one, other))
            self.assertEqual(distance(one, other), expected)
            self.assertIs(type(distance(one, other)), int)


class TestNearest(unittest.TestCase):
    def test_least_distance(self):
        self.assertEqual(nearest(W, (TREE, STAR, V)), 2)
        self.assertEqual(nearest(STAR, (W, TREE, ABOVE)), 1)
        self.assertEqual(nearest(CHERRY, (THREE_WAYS, TWO_WAYS)), 1)
        self.assertEqual(nearest(CHERRY, (TWO_WAYS, THREE_WAYS)), 0)

    def test_equal_distances(self):
        self.assertEqual(nearest(CHERRY, (THREE_WAYS, TWO_WAYS, TURNED)), 1)
        self.assertEqual(nearest(CHERRY, (THREE_WAYS, TURNED, TWO_WAYS)), 1)
        self.assertEqual(nearest(W, (TREE, V, W, V)), 1)

    def test_one_web(self):
        for web in WEBS:
            self.assertEqual(nearest(web, (web,)), 0)
        self.assertEqual(nearest(W, (STAR,)), 0)

    def test_twelve_webs(self):
        self.assertEqual(nearest(W, (TREE,) * 11 + (V,)), 11)
        self.assertEqual(nearest(W, (TREE,) * 12), 0)
        webs = [web for web in small_webs() if web[0] == 3][:12]
        for at, web in enumerate(webs):
            found = [distance(web, other) for other in webs]
            self.assertEqual(nearest(web, tuple(webs)), found.index(0))
            rest = tuple(webs[:at] + webs[at + 1:])
            found = [distance(web, other) for other in rest]
            self.assertEqual(nearest(web, rest), found.index(min(found)))


class TestOtherLeaves(unittest.TestCase):
    def check(self, function, *arguments):
        with self.assertRaises(OtherLeaves) as held:
            function(*arguments)
        self.assertIsInstance(held.exception, WebError)
        self.assertEqual(vars(held.exception), {})

    def test_all_functions(self):
        for one in WEBS:
            for other in WEBS:
                if one[0] != other[0]:
                    for function in (is_alike, match, paper, distance):
                        self.check(function, one, other)

    def test_one_of_several(self):
        self.check(nearest, W, (CHERRY,))
        self.check(nearest, W, (CHERRY, W, W))
        self.check(nearest, W, (W, CHERRY, W))
        self.check(nearest, W, (W, W, CHERRY))
        self.check(nearest, W, (V,) * 11 + (THREE,))
        self.check(nearest, CHERRY, (W, W, W))


class TestAllFunctions(unittest.TestCase):
    def test_somewhat_beyond_the_bounds(self):
        self.assertEqual(match(OVERFULL, OVERFULL), tuple(range(29)))
        self.assertEqual(paper(OVERFULL, FLAT)[0], "row")
        self.assertEqual(nearest(W, (TREE,) * 13 + (V,)), 13)

    def test_webs_stay_as_they_were_and_answers_the_same(self):
        def answers(one, other):
            return [is_alike(one, other), match(one, other), paper(one, other),
                    distance(one, other), nearest(one, (other, one)), form(one)]

        pairs = pairs_of_webs()
        kept = copy.deepcopy(pairs)
        first = [answers(*pair) for pair in pairs]
        again = [answers(*pair) for pair in pairs[::-1]]
        self.assertEqual(first, again[::-1])
        self.assertEqual(pairs, kept)


if __name__ == "__main__":
    unittest.main()
