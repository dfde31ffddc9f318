"""Several webs: what their lots have in common, the middle one, those farthest apart."""

import copy
import unittest

from samples import (ABOVE, BROAD, CHERRY, FLAT, FULL, ONE, OVERFULL, THREE, W, WEBS, Draws,
                     drawn_webs, plain_lot, small_webs, with_link_changed)
from wayrows.alike import distance
from wayrows.built import web_of
from wayrows.errors import NoWeb, OtherLeaves
from wayrows.forms import form
from wayrows.grown import all_webs
from wayrows.rows import lot
from wayrows.votes import agreed, apart, common, middle, united, voted
from wayrows.webs import web_error

TREE = (3, ((0, 1), (2, 3)))
OTHER = (3, ((0, 2), (1, 3)))
STAR = (3, ((0, 1, 2),))
V = (3, ((1,), (2, 3), (0, 3), (4, 5)))
UNITS = ((0, 0, 1), (0, 1, 0), (1, 0, 0))


def groups():
    """Tuples of one to twelve webs with equally many leaves."""
    found = [(web,) for web in WEBS] + [(W, TREE), (TREE, STAR, OTHER), (W, V, W), (ABOVE, TREE, W, STAR)]
    draws = Draws(71)
    small = [web for web in small_webs() if web[0] == 3]
    for many in (2, 3, 5, 12):
        found.append(tuple(draws.some(small, many)))
        found.append(tuple(drawn_webs(many, 72 + many, 4, 4)))
        found.append(tuple(drawn_webs(many, 90 + many, 8, 8)))
    for web in drawn_webs(6, 73, 3):
        near = [value for value in with_link_changed(web) if web_error(value) is None]
        found.append((web,) + tuple(draws.some(near, min(4, len(near)))))
    found.append(all_webs(3, 1)[:12])
    return found


GROUPS = groups()


def plain_voted(some, many):
    """The rows, each as often as it stands at least in so many of the lots, by trying all numbers."""
    lots = [plain_lot(web) for web in some]
    found = []
    for row in sorted({row for told in lots for row in told}):
        times = 0
        while sum(told.count(row) > times for told in lots) >= many:
            times += 1
            found.append(row)
    return tuple(found)


class TestVoted(unittest.TestCase):
    def test_by_hand(self):
        self.assertEqual(common((W, TREE)), UNITS + ((1, 1, 0),))
        self.assertEqual(united((W, TREE)), ((0, 0, 1), (0, 1, 0), (0, 1, 0), (0, 1, 1), (1, 0, 0),
                                             (1, 1, 0), (1, 1, 1), (1, 2, 1)))
        self.assertEqual(voted((TREE, STAR, OTHER), 3), UNITS + ((1, 1, 1),))
        self.assertEqual(voted((TREE, STAR, TREE), 2), UNITS + ((1, 1, 0), (1, 1, 1)))
        self.assertEqual(voted((TREE, STAR, OTHER), 2), UNITS + ((1, 1, 1),))
        # (0, 1, 0) stands twice in W and V, once in TREE.
        self.assertEqual(voted((W, TREE, V), 2).count((0, 1, 0)), 2)
        self.assertEqual(voted((W, TREE, V), 3).count((0, 1, 0)), 1)

    def test_one_web(self):
        for web in WEBS:
            for told in (common((web,)), united((web,)), voted((web,), 1)):
                self.assertEqual(told, lot(web))

    def test_equal_webs(self):
        for many in range(1, 13):
            self.assertEqual(voted((W,) * 12, many), lot(W))
        self.assertEqual(common((W, V)), united((V, W)))

    def test_all_numbers_of_votes(self):
        for some in GROUPS:
            for many in range(1, len(some) + 1):
                self.assertEqual(voted(some, many), plain_voted(some, many))

    def test_ends(self):
        for some in GROUPS:
            lots = [plain_lot(web) for web in some]
            rows = sorted({row for told in lots for row in told})
            least = [row for row in rows for _ in range(min(told.count(row) for told in lots))]
            most = [row for row in rows for _ in range(max(told.count(row) for told in lots))]
            self.assertEqual(common(some), tuple(least))
            self.assertEqual(united(some), tuple(most))
            self.assertEqual(voted(some, len(some)), tuple(least))
            self.assertEqual(voted(some, 1), tuple(most))

    def test_tuples(self):
        for function in (common, united):
            told = function((W, TREE))
            self.assertEqual((type(told), {type(row) for row in told}), (tuple, {tuple}))


class TestMiddle(unittest.TestCase):
    def test_by_hand(self):
        self.assertEqual(middle((W, TREE, STAR)), 1)
        self.assertEqual(middle((TREE, STAR, OTHER)), 1)
        self.assertEqual(middle((STAR, TREE, OTHER)), 0)

    def test_equal_sums(self):
        self.assertEqual(middle((TREE, OTHER)), 0)
        self.assertEqual(middle((W, TREE, TREE, V)), 0)
        self.assertEqual(middle((W, TREE, STAR, TREE)), 1)

    def test_one_web(self):
        self.assertEqual(middle((W,)), 0)

    def test_against_all_distances(self):
        for some in GROUPS:
            sums = [sum(distance(one, other) for other in some) for one in some]
            self.assertEqual(middle(some), sums.index(min(sums)))
            self.assertIs(type(middle(some)), int)


class TestApart(unittest.TestCase):
    def test_by_hand(self):
        self.assertEqual(apart((W, TREE)), (4, 0, 1))
        self.assertEqual(apart((TREE, STAR, W)), (5, 1, 2))
        self.assertEqual(apart((W, V)), (0, 0, 1))

    def test_equal_distances(self):
        self.assertEqual(apart((TREE, TREE, OTHER, OTHER)), (2, 0, 2))
        self.assertEqual(apart((STAR, TREE, OTHER, TREE, OTHER)), (2, 1, 2))
        self.assertEqual(apart((W,) * 12), (0, 0, 1))
        # The pair (0, 3) stands ahead of (1, 2) in the order of pairs.
        self.assertEqual(apart((W, W, STAR, STAR))[1:], (0, 2))
        self.assertEqual(apart((TREE, TREE, TREE, OTHER))[1:], (0, 3))

    def test_one_web(self):
        for web in WEBS:
            self.assertIsNone(apart((web,)))

    def test_against_all_distances(self):
        for some in GROUPS:
            if len(some) > 1:
                pairs = [(i, j) for i in range(len(some)) for j in range(i + 1, len(some))]
                far = [distance(some[i], some[j]) for i, j in pairs]
                at = far.index(max(far))
                self.assertEqual(apart(some), (far[at],) + pairs[at])
                self.assertIs(type(apart(some)), tuple)


class TestAgreed(unittest.TestCase):
    def test_by_hand(self):
        self.assertEqual(agreed((TREE, STAR, TREE), 2), TREE)
        self.assertEqual(agreed((TREE, STAR, OTHER), 2), STAR)
        self.assertEqual(agreed((W, V, TREE), 2), form(W))
        self.assertEqual(agreed((W,), 1), form(W))
        self.assertEqual(agreed((ONE,) * 12, 7), ONE)

    def test_no_web(self):
        with self.assertRaises(NoWeb) as held:
            agreed((W, TREE), 1)
        # It is taken by (0, 1, 1) and by (1, 1, 1).
        self.assertEqual((held.exception.word, held.exception.row), ("parents", (0, 0, 1)))
        with self.assertRaises(NoWeb) as held:
            agreed((W, TREE), 2)
        self.assertEqual((held.exception.word, held.exception.row), ("parents", (0, 0, 1)))

    def test_too_many_rows(self):
        with self.assertRaises(NoWeb) as held:
            agreed((FULL, FLAT, drawn_webs(1, 79, 8, 8)[0]), 1)
        self.assertEqual((held.exception.word, held.exception.row), ("lot", None))

    def test_as_web_of(self):
        ends = set()
        for some in GROUPS:
            for many in range(1, len(some) + 1):
                value = plain_voted(some, many)
                try:
                    expected = web_of(some[0][0], value)
                except NoWeb as error:
                    with self.assertRaises(NoWeb) as held:
                        agreed(some, many)
                    self.assertEqual((held.exception.word, held.exception.row), (error.word, error.row))
                    ends.add(error.word)
                else:
                    told = agreed(some, many)
                    self.assertEqual((told, plain_lot(told)), (expected, value))
                    ends.add(None)
        self.assertLessEqual({None, "parents"}, ends)


class TestAllFunctions(unittest.TestCase):
    def check(self, function, *arguments):
        with self.assertRaises(OtherLeaves) as held:
            function(*arguments)
        self.assertEqual(vars(held.exception), {})

    def test_other_leaves(self):
        for some in ((W, CHERRY), (CHERRY, W), (W, TREE, CHERRY), (W, CHERRY, TREE), (CHERRY, W, TREE),
                     (W,) * 11 + (THREE,), (FULL, BROAD), (ONE, W, ONE)):
            for function in (common, united, middle, apart):
                self.check(function, some)
            for many in range(1, len(some) + 1):
                self.check(voted, some, many)
                self.check(agreed, some, many)

    def test_somewhat_beyond_the_bounds(self):
        some = (W,) + (TREE,) * 13
        self.assertEqual(common(some), UNITS + ((1, 1, 0),))
        self.assertEqual((middle(some), apart(some)), (1, (4, 0, 1)))
        self.assertEqual(agreed(some, 13), TREE)
        self.assertEqual(united((OVERFULL,)), lot(OVERFULL))
        self.assertEqual(voted((W, TREE), 3), ())

    def test_webs_stay_as_they_were_and_answers_the_same(self):
        def answers(some):
            return [common(some), united(some), voted(some, 1 + len(some) // 2), middle(some), apart(some)]

        kept = copy.deepcopy(GROUPS)
        first = [answers(some) for some in GROUPS]
        again = [answers(some) for some in GROUPS[::-1]]
        self.assertEqual(first, again[::-1])
        self.assertEqual(GROUPS, kept)


if __name__ == "__main__":
    unittest.main()
