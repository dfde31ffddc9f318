"""The checker: each word by itself and ahead of the later ones, with its number."""

import copy
import unittest
from itertools import permutations, product

from samples import (ANY_VALUES, BIG, CHERRY, LADDER, ONE, OVERFULL, THREE, W, WEBS, Draws, deep,
                     drawn_webs, numbered_otherwise, pairs_of_webs, plain_children, plain_lot,
                     tower)
from wayrows.alike import match, paper
from wayrows.checker import is_paper
from wayrows.errors import NoPaper, OtherLeaves
from wayrows.webs import root

V = (3, ((1,), (2, 3), (0, 3), (4, 5)))
TREE = (3, ((0, 1), (2, 3)))
GOALS = (0, 1, 2, 3, 5, 4, 6)
PARTING = ("row", (0, 1, 0), 2, 1)
NO_INTEGERS = (True, False, None, "1", "", (), (1,), [], [1], {}, {1: 1}, deep(10), deep(10, list))
# The same but for one link, from the root to the mixing 4.
LESS = (4, ((0,), (1, 4), (2, 4), (3, 5, 6)))
MORE = (4, ((0,), (1, 4), (2, 4), (3, 4, 5, 6)))


def put(items, at, *others):
    """The tuple with other items in the place of one."""
    return items[:at] + others + items[at + 1:]


def plain_match_fault(one, other, goals):
    """The word and number for a tuple of goals, by the document's words."""
    below, beyond = plain_children(one), plain_children(other)
    if not len(goals) == len(below) == len(beyond):
        return ("size", -1)
    for at, goal in enumerate(goals):
        if type(goal) is not int or goal not in beyond or goal in goals[:at]:
            return ("kind", at)
    for at in range(one[0]):
        if goals[at] != at:
            return ("leaf", at)
    for at in sorted(below):
        if {goals[child] for child in below[at]} != set(beyond[goals[at]]):
            return ("link", at)
    return None


class CheckerTest(unittest.TestCase):
    def check(self, one, other, value, word, number):
        before = copy.deepcopy(value)
        with self.assertRaises(NoPaper) as held:
            is_paper(one, other, value)
        self.assertEqual((held.exception.word, held.exception.number), (word, number), value)
        self.assertEqual(repr(value), repr(before))

    def check_goals(self, one, other, goals):
        """The same fault as by the document's words, or none."""
        fault = plain_match_fault(one, other, goals)
        if fault is None:
            self.assertIs(is_paper(one, other, ("match", goals)), True)
        else:
            self.check(one, other, ("match", goals), *fault)


class TestPapers(CheckerTest):
    def test_papers(self):
        self.assertIs(is_paper(W, V, ("match", GOALS)), True)
        self.assertIs(is_paper(W, TREE, PARTING), True)
        self.assertIs(is_paper(ONE, ONE, ("match", (0,))), True)

    def test_any_row_that_parts(self):
        for value in (("row", (0, 1, 1), 1, 0), ("row", (1, 1, 1), 0, 1), ("row", (1, 2, 1), 1, 0)):
            self.assertIs(is_paper(W, TREE, value), True)
            kind, row, times, others = value
            self.assertIs(is_paper(TREE, W, (kind, row, others, times)), True)

    def test_all_papers_told(self):
        for one, other in pairs_of_webs():
            value = paper(one, other)
            self.assertIs(is_paper(one, other, value), True)
            first, second = plain_lot(one), plain_lot(other)
            for row in set(first) | set(second):
                told = ("row", row, first.count(row), second.count(row))
                if told[2] != told[3]:
                    self.assertIs(is_paper(one, other, told), True)
                else:
                    self.check(one, other, told, "count", -1)

    def test_drawn_webs_numbered_otherwise(self):
        draws = Draws(15)
        for web in drawn_webs(16, 16) + [tower(4, 4)]:
            other = numbered_otherwise(web, draws)
            self.assertIs(is_paper(web, other, ("match", match(web, other))), True)

    def test_papers_of_other_webs(self):
        self.check(W, W, ("match", GOALS), "link", 4)
        self.check(W, V, PARTING, "count", -1)
        self.check(TREE, W, PARTING, "count", -1)
        self.check(W, TREE, ("match", GOALS), "size", -1)
        self.check(TREE, TREE, ("match", GOALS), "size", -1)
        self.check(CHERRY, CHERRY, ("row", (0, 1, 0), 2, 1), "row", -1)

    def test_somewhat_beyond_the_bounds(self):
        self.assertIs(is_paper(OVERFULL, OVERFULL, ("match", tuple(range(29)))), True)


class TestShape(CheckerTest):
    def test_no_tuple(self):
        for value in (["match", GOALS], ["row", (0, 1, 0), 2, 1], {"match": GOALS}, "match", "row",
                      "row!", None, True, False, 0, 4, BIG, [], {}, {0: "row", 1: 1, 2: 2, 3: 3}):
            self.check(W, V, value, "shape", -1)
            self.check(W, TREE, value, "shape", -1)

    def test_other_lengths(self):
        for value in ((), ("match",), ("row",), ("match", GOALS, GOALS), ("row", (0, 1, 0)),
                      ("match", GOALS, 0, 0), ("row", (0, 1, 0), 2), PARTING + (0,), ("row", GOALS),
                      ("match",) + GOALS, ("row", 0, 1, 0, 2, 1)):
            self.check(W, V, value, "shape", -1)
            self.check(W, TREE, value, "shape", -1)

    def test_other_first_items(self):
        for first in (None, True, 0, "", "Match", "matc", "match ", "rows", ("match",), ["match"],
                      ("row",), b"match", {"match": 1}, deep(11), deep(11, list)):
            self.check(W, V, (first, GOALS), "shape", -1)
            self.check(W, TREE, (first,) + PARTING[1:], "shape", -1)
        self.check(W, V, ("row", GOALS), "shape", -1)
        self.check(W, TREE, ("match",) + PARTING[1:], "shape", -1)
        self.check(W, V, (GOALS, "match"), "shape", -1)

    def test_match_that_is_no_tuple(self):
        for goals in (list(GOALS), None, True, 0, 7, "0123546", {}, {0: 0}, [], dict(enumerate(GOALS)),
                      deep(11, list)):
            self.check(W, V, ("match", goals), "shape", -1)
            self.check(W, TREE, ("match", goals), "shape", -1)


class TestMatches(CheckerTest):
    def test_size(self):
        for goals in ((), GOALS[:-1], GOALS + (7,), GOALS * 2, (0,), (GOALS,)):
            self.check(W, V, ("match", goals), "size", -1)

    def test_size_of_the_other_web(self):
        # As many items as one of the webs has kinds.
        self.check(W, TREE, ("match", GOALS), "size", -1)
        self.check(W, TREE, ("match", (0, 1, 2, 3, 4)), "size", -1)
        self.check(TREE, W, ("match", GOALS), "size", -1)
        self.check(TREE, W, ("match", (0, 1, 2, 3, 4)), "size", -1)

    def test_size_ahead_of_the_later_ones(self):
        for goals in ((None,) * 6, (True,) * 8, (1, 0, 2), (0,) * 6, GOALS[:-1] + (9, 9)):
            self.check(W, V, ("match", goals), "size", -1)
        self.check(W, TREE, ("match", (None,) * 7), "size", -1)

    def test_kinds_that_are_none(self):
        for at in range(7):
            for goal in NO_INTEGERS + (-1, 7, BIG, -BIG):
                self.check(W, V, ("match", put(GOALS, at, goal)), "kind", at)

    def test_true_and_false(self):
        self.check(W, V, ("match", put(GOALS, 1, True)), "kind", 1)
        self.check(W, V, ("match", put(GOALS, 0, False)), "kind", 0)
        self.check(ONE, ONE, ("match", (False,)), "kind", 0)

    def test_twice_the_same(self):
        for at in range(7):
            for ahead in range(at):
                self.check(W, V, ("match", put(GOALS, at, GOALS[ahead])), "kind", at)
        self.check(W, V, ("match", (0,) * 7), "kind", 1)
        self.check(W, V, ("match", (0, 1, 2, 3, 6, 6, 6)), "kind", 5)

    def test_first_place_of_several(self):
        self.check(W, V, ("match", (0, 7, 2, None, 5, 4, 6)), "kind", 1)
        self.check(W, V, ("match", (0, 1, 2, 2, 5, 4, 7)), "kind", 3)
        self.check(W, V, ("match", (None,) * 7), "kind", 0)

    def test_kind_ahead_of_the_later_ones(self):
        self.check(W, V, ("match", (1, 0, 2, 3, 5, 4, 7)), "kind", 6)
        self.check(W, V, ("match", (0, 1, 2, 3, 4, 5, None)), "kind", 6)
        self.check(W, V, ("match", (2, 1, 0, 3, 4, 5, 5)), "kind", 6)

    def test_leaves(self):
        self.check(W, V, ("match", (2, 1, 0, 3, 5, 4, 6)), "leaf", 0)
        self.check(W, V, ("match", (0, 2, 1, 3, 5, 4, 6)), "leaf", 1)
        self.check(W, V, ("match", (0, 1, 6, 3, 5, 4, 2)), "leaf", 2)
        # But for the leaves' names the links would fit.
        self.check(W, V, ("match", (2, 1, 0, 3, 4, 5, 6)), "leaf", 0)

    def test_leaf_ahead_of_link(self):
        self.check(W, V, ("match", (0, 2, 1, 3, 4, 5, 6)), "leaf", 1)
        self.check(W, V, ("match", (6, 5, 4, 3, 2, 1, 0)), "leaf", 0)

    def test_links(self):
        self.check(W, V, ("match", (0, 1, 2, 3, 4, 5, 6)), "link", 4)
        self.check(W, V, ("match", (0, 1, 2, 4, 3, 5, 6)), "link", 3)
        self.check(W, V, ("match", (0, 1, 2, 3, 5, 6, 4)), "link", 5)
        self.check(LADDER, LADDER, ("match", (0, 1, 2, 3, 4, 5, 6, 8, 7, 9)), "link", 7)

    def test_a_link_more_on_either_side(self):
        same = ("match", tuple(range(8)))
        self.check(LESS, MORE, same, "link", 7)
        self.check(MORE, LESS, same, "link", 7)
        self.assertIs(is_paper(LESS, LESS, same), True)
        self.assertIs(is_paper(MORE, MORE, same), True)

    def test_all_orders_of_the_kinds(self):
        for goals in permutations(range(7)):
            self.check_goals(W, V, goals)

    def test_all_tuples(self):
        for goals in product(range(-1, 6), repeat=5):
            self.check_goals(TREE, TREE, goals)
        for goals in product((0, 1, 2, 3, True, None), repeat=3):
            self.check_goals(CHERRY, CHERRY, goals)

    def test_matches_with_two_goals_exchanged(self):
        for one, other in pairs_of_webs()[::5]:
            if root(one) == root(other):
                told = match(one, other) or tuple(range(root(one) + 1))
                self.check_goals(one, other, told)
                for at in range(1, len(told)):
                    turned = list(told)
                    turned[at - 1], turned[at] = told[at], told[at - 1]
                    self.check_goals(one, other, tuple(turned))


class TestRows(CheckerTest):
    def test_rows_that_are_none(self):
        for row in ([0, 1, 0], {0: 0, 1: 1, 2: 0}, "010", None, True, 0, 10, (), (0, 1), (0, 1, 0, 0),
                    (0, 1, 0) * 2, ((0, 1, 0),), [], {}, deep(11), deep(11, list)):
            self.check(W, TREE, ("row", row, 2, 1), "row", -1)

    def test_rows_with_other_items(self):
        for at in range(3):
            for item in NO_INTEGERS:
                self.check(W, TREE, ("row", put((0, 1, 0), at, item), 2, 1), "row", -1)
        self.check(W, TREE, ("row", (0, True, 0), 2, 1), "row", -1)
        self.check(W, TREE, ("row", (False, 1, False), 2, 1), "row", -1)

    def test_row_ahead_of_count(self):
        for row in (None, [0, 1, 0], (0, 1), (0, True, 0)):
            for counts in ((1, 2), (2, 2), (None, None), (True, [])):
                self.check(W, TREE, ("row", row) + counts, "row", -1)

    def test_numbers_of_times(self):
        for counts in ((1, 2), (2, 0), (2, 2), (1, 1), (3, 1), (0, 1), (2, 3), (-2, -1), (0, 0),
                       (BIG, 1), (2, BIG), (2, -1), (1, 0)):
            self.check(W, TREE, ("row", (0, 1, 0)) + counts, "count", -1)

    def test_numbers_that_are_no_integers(self):
        for item in NO_INTEGERS:
            self.check(W, TREE, ("row", (0, 1, 0), item, 1), "count", -1)
            self.check(W, TREE, ("row", (0, 1, 0), 2, item), "count", -1)
            self.check(W, TREE, ("row", (0, 1, 0), item, item), "count", -1)
        # What Python calls equal to the right numbers.
        self.check(W, TREE, ("row", (0, 1, 0), 2, True), "count", -1)
        self.check(W, TREE, ("row", (1, 1, 1), False, 1), "count", -1)
        self.check(W, TREE, ("row", (1, 1, 1), 0, True), "count", -1)
        self.check(W, TREE, ("row", (0, 1, 1), True, False), "count", -1)

    def test_rows_that_stand_as_often_in_both(self):
        self.check(W, TREE, ("row", (1, 0, 0), 1, 1), "count", -1)
        self.check(W, TREE, ("row", (1, 1, 0), 1, 1), "count", -1)
        self.check(W, V, ("row", (0, 1, 0), 2, 2), "count", -1)
        for row in ((0, 0, 0), (9, 9, 9), (-1, 0, 0), (BIG, 0, 0), (-BIG, BIG, 1)):
            self.check(W, TREE, ("row", row, 0, 0), "count", -1)
            self.check(W, TREE, ("row", row, 1, 0), "count", -1)

    def test_all_counts(self):
        first, second = plain_lot(W), plain_lot(TREE)
        for row in product(range(-1, 3), repeat=3):
            for times, others in product(range(-1, 4), repeat=2):
                value = ("row", row, times, others)
                right = (times, others) == (first.count(row), second.count(row))
                if right and times != others:
                    self.assertIs(is_paper(W, TREE, value), True)
                else:
                    self.check(W, TREE, value, "count", -1)


class TestOtherLeaves(CheckerTest):
    def test_ahead_of_all_else(self):
        for one in WEBS:
            for other in WEBS:
                if one[0] != other[0]:
                    for value in (None, ("match", ()), ("match", GOALS), PARTING, [], ("row", 0)):
                        with self.assertRaises(OtherLeaves):
                            is_paper(one, other, value)

    def test_any_value(self):
        for value in ANY_VALUES:
            with self.assertRaises(OtherLeaves):
                is_paper(W, CHERRY, value)


class TestAnyValue(CheckerTest):
    def test_by_itself_and_as_parts(self):
        for value in ANY_VALUES + WEBS + (NoPaper("link", 3),):
            self.check(W, V, value, "shape", -1)
            if isinstance(value, tuple):
                self.check_goals(W, V, value)
            else:
                self.check(W, V, ("match", value), "shape", -1)
            for other in ANY_VALUES:
                word = "count" if value == (1, 2, 3) else "row"
                self.check(W, TREE, ("row", value, other, value), word, -1)
                if (value, other) != (2, 1):
                    self.check(W, TREE, ("row", (0, 1, 0), value, other), "count", -1)

    def test_answers_do_not_depend_on_earlier_calls(self):
        self.check(W, V, ("match", (0, 1, 2, 3, 4, 5, 6)), "link", 4)
        self.assertIs(is_paper(W, V, ("match", GOALS)), True)
        self.check(W, V, ("match", (0, 1, 2, 3, 4, 5, 6)), "link", 4)
        self.assertIs(is_paper(one=THREE, other=THREE, value=("match", tuple(range(9)))), True)


if __name__ == "__main__":
    unittest.main()
