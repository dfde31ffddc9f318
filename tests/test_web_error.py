"""web_error: each answer by itself and ahead of the later ones."""

import copy
import unittest
from itertools import combinations

from samples import (ABOVE, ANY_VALUES, BIG, FLAT, FULL, ONE, OVERFULL, W, WEBS, changed_webs,
                     deep, plain_children, plain_parents, small_values)
from wayrows.webs import web_error

LINK_WORDS = ("parents", "leaf", "single", "mixing", "bare")


def plain_faults(value):
    """The kinds that have each fault, by the document's words, for right leaves and items."""
    below, above = plain_children(value), plain_parents(value)
    leaves = [kind for kind in below if kind < value[0]]
    mixed = [kind for kind in below if len(above[kind]) >= 2]
    plain = [kind for kind in below if kind not in mixed and kind not in leaves]
    return {
        "parents": [k for k in below if not above[k] and k != max(below)],
        "leaf": [k for k in leaves if k in mixed],
        "single": [k for k in plain if len(below[k]) == 1],
        "mixing": [k for k in mixed if len(below[k]) >= 2],
        "bare": [k for k in below if below[k] and set(below[k]) <= set(mixed)],
    }


def plain_error(value):
    """The first of these faults, with its least kind."""
    for word, kinds in plain_faults(value).items():
        if kinds:
            return (min(kinds), word)
    return None


class WebErrorTest(unittest.TestCase):
    def check(self, value, expected):
        before = copy.deepcopy(value)
        found = web_error(value)
        self.assertEqual(found, expected, value)
        self.assertEqual(repr(value), repr(before))
        if found is not None:
            self.assertIs(type(found), tuple)
            self.assertIn(type(found[0]), (int, type(None)))


class TestShape(WebErrorTest):
    """Faults of the pair, its leaves and its inner."""

    def test_no_pair(self):
        for value in ANY_VALUES:
            if not isinstance(value, tuple) or len(value) != 2:
                self.check(value, (None, "web"))
        for value in (W + (0,), W[:1], list(W), {3: (), 1: ()}, [W, W], "ab", True, (True,)):
            self.check(value, (None, "web"))

    def test_leaves(self):
        for leaves in (0, -1, 9, BIG, -BIG, None, True, False, "3", (3,), [3], {}, (), deep(11)):
            self.check((leaves, ()), (None, "leaves"))
        self.check((9, ((0, 1, 2, 3, 4, 5, 6, 7, 8),)), (None, "leaves"))
        self.check((W, W), (None, "leaves"))

    def test_true_is_no_number_of_leaves(self):
        self.check((1, ()), None)
        self.check((True, ()), (None, "leaves"))
        self.check((False, ()), (None, "leaves"))

    def test_leaves_ahead_of_the_later_ones(self):
        for leaves in (0, 9, True, None):
            for inner in (None, [], OVERFULL[1], ((3, 2),), ((True,),), ((0,), (0,)), deep(11)):
                self.check((leaves, inner), (None, "leaves"))

    def test_inner(self):
        for inner in (None, True, False, 0, "", "ab", [], {}, [(0, 1)], {0: (1,)}, deep(11, list)):
            self.check((3, inner), (None, "inner"))
        self.check((1, []), (None, "inner"))

    def test_inner_of_more_than_twenty_items(self):
        self.check(FULL, None)
        self.check(OVERFULL, (None, "inner"))
        self.check((1, ((0,),) * 20), (1, "parents"))
        self.check((1, ((0,),) * 21), (None, "inner"))

    def test_inner_ahead_of_the_later_ones(self):
        self.check((1, (None,) * 21), (None, "inner"))
        self.check((1, (None,) * 20), (1, "children"))
        self.check((3, [(True,), ()]), (None, "inner"))

    def test_bounds_of_leaves(self):
        self.check(ONE, None)
        self.check(FLAT, None)
        self.check((8, ((0, 1, 2, 3, 4, 5, 6, 7), (8,))), (9, "single"))
        self.check((9, FLAT[1]), (None, "leaves"))


class TestChildren(WebErrorTest):
    """Faults of single items of inner."""

    def test_each_wrong_sort(self):
        wrong = ((), [], [0, 1], {0: 1}, {}, None, True, False, 0, 1, "01", "", (1, 0), (0, 0),
                 (0, 1, 1), (0, 2, 1), (-1, 0), (-1,), (-BIG, 0), (0, BIG), (0, 9), (0, None),
                 (0, "1"), ("0", "1"), (None,), (0, (1,)), ((0, 1),), (0, [1]), (0, {}),
                 (0, 1, None), deep(10), deep(10, list), W)
        for item in wrong:
            self.check((3, (item,)), (3, "children"))
            self.check((3, ((0, 1), (2, 3), item)), (5, "children"))

    def test_true_and_false(self):
        self.check((3, ((True,), (0, 3), (2, 3), (4, 5))), (3, "children"))
        self.check((3, ((1,), (False, 3), (2, 3), (4, 5))), (4, "children"))
        self.check((3, ((0, True), (2, 3))), (3, "children"))
        self.check((1, ((False,),)), (1, "children"))
        self.check((2, ((False, True),)), (2, "children"))

    def test_numbers_reach_to_the_one_below_the_own(self):
        self.check((3, ((0, 1), (2, 3))), None)
        self.check((3, ((0, 1), (2, 4))), (4, "children"))
        self.check((3, ((0, 1), (2, 5))), (4, "children"))
        self.check((3, ((0, 3), (2, 3))), (3, "children"))
        self.check((1, ((1,),)), (1, "children"))
        self.check((1, ((0,), (0, 1), (0, 1, 3))), (3, "children"))

    def test_least_number_first(self):
        self.check((3, ((0, 1), [2, 3], ())), (4, "children"))
        self.check((3, ((1, 0), [2, 3], ())), (3, "children"))
        self.check((8, (None, None)), (8, "children"))

    def test_ahead_of_the_later_ones(self):
        others = ((0, 1), (0, 1), (3,), (3,), (5, 6), (5, 6))
        self.check((3, others), (2, "parents"))
        self.check((3, others + ([],)), (9, "children"))

    def test_webs_with_an_item_put_otherwise(self):
        for leaves, inner in WEBS:
            for at, item in enumerate(inner):
                for other in (list(item), item[::-1] + item, item + (leaves + at,), (-1,) + item):
                    changed = inner[:at] + (other,) + inner[at + 1:]
                    self.check((leaves, changed), (leaves + at, "children"))


class TestLinks(WebErrorTest):
    """Faults of what the items tell together."""

    def test_webs(self):
        for web in WEBS:
            self.check(web, None)

    def test_example(self):
        self.check((3, ((1,), (0, 3), (2, 3), (3, 4, 5))), None)

    def test_parents(self):
        self.check((2, ()), (0, "parents"))
        self.check((8, ()), (0, "parents"))
        self.check((3, ((0, 1),)), (2, "parents"))
        self.check((4, ((0, 1), (2, 3), (0, 4))), (5, "parents"))

    def test_parents_ahead_of_the_later_ones(self):
        self.check((2, ((1,), (1,))), (0, "parents"))
        self.check((1, ((0,), (0,))), (1, "parents"))
        self.check((1, ((0,), (0,), (1,))), (2, "parents"))
        self.check((1, ((0,), (0, 1), (2,), (2,))), (3, "parents"))
        self.check((3, ((0, 1), (3,))), (2, "parents"))

    def test_leaf(self):
        self.check((2, ((0, 1), (0, 2))), (0, "leaf"))
        self.check((3, ((0, 1), (1, 2, 3))), (1, "leaf"))
        self.check((3, ((0, 1, 2), (1, 2, 3))), (1, "leaf"))

    def test_leaf_ahead_of_the_later_ones(self):
        self.check((1, ((0,), (0, 1))), (0, "leaf"))
        self.check((2, ((1,), (0, 1, 2))), (1, "leaf"))
        self.check((1, ((0,), (0, 1), (2,), (2, 3))), (0, "leaf"))

    def test_single(self):
        self.check((1, ((0,),)), (1, "single"))
        self.check((1, ((0,), (1,))), (1, "single"))
        self.check((2, ((0, 1), (2,))), (3, "single"))
        self.check((2, ((0,), (1, 2))), (2, "single"))
        self.check((3, ((0, 1), (2,), (3, 4))), (4, "single"))

    def test_single_ahead_of_the_later_ones(self):
        self.check((2, ((0, 1), (2,), (2, 3))), (3, "single"))
        self.check((1, ((0,), (1,), (1, 2))), (2, "single"))
        self.check((1, ((0,), (1,), (2,), (1, 2, 3))), (3, "single"))

    def test_mixing(self):
        self.check((3, ((0, 1), (2, 3), (3, 4))), (3, "mixing"))
        self.check((4, ((0, 1), (2, 4), (3, 4), (5, 6))), (4, "mixing"))
        self.check((4, ((0,), (1, 4), (2, 4, 5), (3, 4, 6), (5, 6, 7))), (5, "mixing"))

    def test_mixing_ahead_of_bare(self):
        self.check((2, ((0,), (1, 2), (2, 3), (3, 4))), (3, "mixing"))
        # Kind 7 is bare, as 5 and 6 are mixings; the mixing with two children is 9.
        value = (5, ((0,), (1,), (5, 6), (2, 5), (3, 6), (4, 9), (7, 8, 9, 10)))
        self.assertEqual((plain_faults(value)["bare"], plain_faults(value)["mixing"]), ([7], [9]))
        self.check(value, (9, "mixing"))

    def test_bare(self):
        self.check((4, ((0,), (1,), (4, 5), (2, 4), (3, 5), (6, 7, 8))), (6, "bare"))
        # A mixing whose child is a mixing.
        self.check((1, ((0,), (1,), (1, 2), (2, 3))), (2, "bare"))

    def test_bare_least_number_first(self):
        self.check((4, ((0,), (1,), (4, 5), (4, 5), (2, 3, 6, 7))), (6, "bare"))

    def test_against_the_words_of_the_document(self):
        values = small_values() + changed_webs()
        for value in values:
            self.assertEqual(web_error(value), plain_error(value), value)
        # The values are enough to tell any two orders of the words apart.
        alone, pairs = {None}, set()
        for value in values:
            words = [word for word, kinds in plain_faults(value).items() if kinds]
            alone.update(words if len(words) == 1 else ())
            pairs.update((words[0], word) for word in words[1:])
        self.assertEqual(alone, {None, *LINK_WORDS})
        self.assertEqual(pairs, set(combinations(LINK_WORDS, 2)))

    def test_one_leaf_has_one_web(self):
        webs = [value for value in small_values() if web_error(value) is None]
        self.assertEqual([web for web in webs if web[0] == 1], [ONE])
        self.assertEqual(len(webs), 30)


class TestAnyValue(WebErrorTest):
    def test_nothing_is_raised_and_nothing_changed(self):
        for value in ANY_VALUES:
            for other in ANY_VALUES:
                for put in ((value, other), (3, (value, other)), (3, ((value, other),))):
                    self.check(put, web_error(copy.deepcopy(put)))

    def test_long_numbers_and_deep_values(self):
        self.check((BIG, deep(11)), (None, "leaves"))
        self.check((3, ((BIG,),)), (3, "children"))
        self.check((3, (deep(10), deep(10))), (3, "children"))
        self.check((3, deep(11)), (3, "children"))

    def test_webs_put_otherwise(self):
        for web in WEBS:
            self.check(list(web), (None, "web"))
            self.check({web[0]: web[1]}, (None, "web"))
            self.check((web[0], list(web[1])), (None, "inner"))
            self.check((True, web[1]), (None, "leaves"))
            self.check((web[1], web[0]), (None, "leaves"))

    def test_results_passed_on(self):
        for value in (W, OVERFULL, (True, ()), (2, ()), [W]):
            told = web_error(value)
            self.check(told, (None, "web" if told is None else "leaves"))
        self.check((2, "parents"), (None, "inner"))

    def test_answers_do_not_depend_on_earlier_calls(self):
        values = (W, OVERFULL, (2, ()), ABOVE, FLAT, [W], (True, ()), ONE)
        first = [web_error(value) for value in values]
        again = [web_error(value) for value in reversed(values)]
        self.assertEqual(first, again[::-1])

    def test_by_name(self):
        self.assertEqual(web_error(value=(2, ())), (0, "parents"))


if __name__ == "__main__":
    unittest.main()
