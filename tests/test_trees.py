"""Trees that webs show, against all choices gone through one by one."""

import copy
import unittest
from fractions import Fraction
from itertools import combinations, product

from samples import (ABOVE, ANY_VALUES, BIG, BROAD, CHERRY, FLAT, FULL, LADDER, ONE, OVERFULL, THREE,
                     W, WEBS, deep, drawn_webs, plain_children, plain_parents, plain_rows,
                     small_webs, tower)
from wayrows.trees import backed, choices, hard, how_often, shows, soft, tree, tree_error, trees
from wayrows.webs import web_error

TREE = (4, ((0, 1), (2, 4), (3, 5)))
FIRST, SECOND = ((0, 1), (0, 1, 2)), ((0, 1, 2), (1, 2))


def comb(numbers):
    """A web with a mixing above each leaf but the last, with these numbers of parents."""
    leaves = len(numbers) + 1
    inner = [(leaf,) for leaf in range(leaves - 1)]
    top = leaves - 1
    for step in range(max(numbers)):
        below = [leaves + leaf for leaf, number in enumerate(numbers) if number > step]
        inner.append(tuple(sorted(below + [top])))
        top = leaves + len(inner) - 1
    return (leaves, tuple(inner))


MANY = comb((2, 2, 3, 5, 5))
SAMPLES = small_webs() + list(WEBS[:-1]) + drawn_webs(40, 51) + [LADDER, TREE, tower(2, 3), comb((2, 3))]


def plain_choices(web):
    """All choices in ascending order, each with the children left by it, as a dict."""
    below, above = plain_children(web), plain_parents(web)
    mixed = [kind for kind in sorted(above) if len(above[kind]) > 1]
    found = []
    for choice in product(*[range(len(above[kind])) for kind in mixed]):
        kept = {kind: above[kind][place] for kind, place in zip(mixed, choice)}
        found.append((choice, {kind: [child for child in below[kind] if kept.get(child, kind) == kind]
                               for kind in below}))
    return found


def leaves_beneath(left, kind, leaves):
    """The leaves that are come to from a kind."""
    if kind < leaves:
        return {kind}
    return set().union(*[leaves_beneath(left, child, leaves) for child in left[kind]])


def plain_trees(web):
    """A dict from all choices in ascending order to their trees."""
    found = {}
    for choice, left in plain_choices(web):
        below = {tuple(sorted(leaves_beneath(left, kind, web[0]))) for kind in left}
        found[choice] = tuple(sorted(cluster for cluster in below if len(cluster) > 1))
    return found


def all_clusters(leaves):
    """All ascending tuples of two or more leaves."""
    return [some for many in range(2, leaves + 1) for some in combinations(range(leaves), many)]


class TestDocument(unittest.TestCase):
    def test_document(self):
        self.assertEqual([choices(W), tree(W, (0,)), trees(W), hard(W), backed(W, (0, 1))],
                         [2, ((0, 1), (0, 1, 2)), (((0, 1), (0, 1, 2)), ((0, 1, 2), (1, 2))),
                          ((0, 1), (0, 1, 2), (1, 2)), (1, 2)])

    def test_one_leaf(self):
        self.assertEqual([choices(ONE), tree(ONE, ()), trees(ONE)], [1, (), ((),)])
        self.assertEqual([soft(ONE), hard(ONE)], [(), ()])
        self.assertEqual([shows(ONE, ()), how_often(ONE, ()), tree_error(1, ())], [(), 1, None])


class TestChoices(unittest.TestCase):
    def test_products(self):
        self.assertEqual([choices(web) for web in (CHERRY, FLAT, TREE)], [1, 1, 1])
        self.assertEqual([choices(web) for web in (W, ABOVE, THREE, LADDER)], [2, 2, 3, 4])
        self.assertEqual([choices(web) for web in (BROAD, tower(2, 3), tower(4, 4))], [4, 9, 256])
        self.assertEqual([choices(FULL), choices(MANY)], [128, 300])

    def test_against_all(self):
        for web in SAMPLES:
            self.assertEqual(choices(web), len(plain_choices(web)))


class TestTree(unittest.TestCase):
    def test_by_hand(self):
        self.assertEqual([tree(W, (0,)), tree(W, (1,))], [FIRST, SECOND])
        self.assertEqual(tree(TREE, ()), ((0, 1), (0, 1, 2), (0, 1, 2, 3)))
        self.assertEqual(tree(CHERRY, ()), ((0, 1),))
        self.assertEqual(tree(FLAT, ()), (tuple(range(8)),))
        self.assertEqual([tree(THREE, (place,)) for place in range(3)],
                         [((0, 1), (0, 1, 2, 3)), ((0, 1, 2, 3), (0, 2)), ((0, 1, 2, 3), (0, 3))])
        self.assertEqual([tree(ABOVE, (0,)), tree(ABOVE, (1,))], [((0, 1), (0, 1, 2))] * 2)

    def test_kinds_with_the_same_leaves_count_once(self):
        # The mixing, its child and their parent (5) have the leaves 0 and 1 beneath.
        web = (4, ((0, 1), (4,), (2, 5), (3, 5), (6, 7)))
        self.assertEqual(tree(web, (0,)), ((0, 1), (0, 1, 2), (0, 1, 2, 3)))
        self.assertEqual(tree(web, (1,)), ((0, 1), (0, 1, 2, 3), (0, 1, 3)))

    def test_all_choices(self):
        for web in SAMPLES:
            for choice, told in plain_trees(web).items():
                self.assertEqual(tree(web, choice), told)

    def test_three_hundred_choices(self):
        found = plain_trees(MANY)
        self.assertEqual({choice: tree(MANY, choice) for choice in found}, found)


class TestTrees(unittest.TestCase):
    def test_ascending_each_once(self):
        self.assertEqual(trees(W), (FIRST, SECOND))
        self.assertEqual(trees(ABOVE), (((0, 1), (0, 1, 2)),))
        self.assertEqual(trees(TREE), (tree(TREE, ()),))
        for web in SAMPLES + [MANY]:
            self.assertEqual(trees(web), tuple(sorted(set(plain_trees(web).values()))))

    def test_tuples_at_every_depth(self):
        for web in SAMPLES:
            self.assertIs(type(trees(web)), tuple)
            for told in trees(web):
                self.assertIs(type(told), tuple)
                for cluster in told + soft(web) + hard(web):
                    self.assertEqual((type(cluster), {type(leaf) for leaf in cluster}), (tuple, {int}))

    def test_what_is_shown_is_a_tree(self):
        for web in SAMPLES:
            for told in trees(web):
                self.assertIsNone(tree_error(web[0], told))


class TestTreeError(unittest.TestCase):
    def check(self, leaves, value, word):
        before = repr(value)
        self.assertEqual(tree_error(leaves, value), word, value)
        self.assertEqual(repr(value), before)

    def test_trees(self):
        self.check(1, (), None)
        self.check(2, ((0, 1),), None)
        self.check(3, ((0, 1, 2),), None)
        self.check(3, FIRST, None)
        self.check(8, (tuple(range(7)), tuple(range(8)), (2, 3), (5, 6)), None)
        self.check(8, (tuple(range(8)), tuple(range(7)), (2, 3), (5, 6)), "tree")

    def test_tree(self):
        for value in ANY_VALUES:
            word = "tree" if value != () or not isinstance(value, tuple) else "all"
            self.check(3, value, word)
            self.check(1, value, "tree" if word == "tree" else None)
            self.check(3, ((0, 1, 2), value), "tree")
            self.check(3, (value, (0, 1, 2)), "tree")
        self.check(3, [(0, 1, 2)], "tree")
        self.check(3, ([0, 1, 2],), "tree")
        self.check(3, FIRST[::-1], "tree")
        self.check(3, ((0, 1), (0, 1), (0, 1, 2)), "tree")
        self.check(3, ((0,), (0, 1, 2)), "tree")
        self.check(3, ((), (0, 1, 2)), "tree")
        self.check(3, ((0, 1, 2), (2, 1)), "tree")
        self.check(3, ((0, 0, 1), (0, 1, 2)), "tree")
        self.check(3, ((0, 1, 2), (1, 3)), "tree")
        self.check(3, ((-1, 0), (0, 1, 2)), "tree")
        self.check(3, ((0, 1, 2, 3),), "tree")
        self.check(3, ((0, BIG), (0, 1, 2)), "tree")

    def test_true_and_false(self):
        self.check(2, ((0, True),), "tree")
        self.check(2, ((False, 1),), "tree")
        self.check(3, ((0, 1), (False, True, 2)), "tree")
        self.check(3, ((0, True), (0, 1, 2)), "tree")

    def test_one_leaf(self):
        for value in (((0,),), ((0, 0),), ((),), (0,), [], None, ((0, 1),)):
            self.check(1, value, "tree")

    def test_all(self):
        for leaves in range(2, 9):
            self.check(leaves, (), "all")
        self.check(3, ((0, 1),), "all")
        self.check(4, ((0, 1, 2), (0, 1, 3), (2, 3)), "all")
        self.check(3, ((0, 1), (1, 2)), "all")

    def test_cross(self):
        self.check(3, ((0, 1), (0, 1, 2), (1, 2)), "cross")
        self.check(4, ((0, 1, 2), (0, 1, 2, 3), (2, 3)), "cross")
        self.check(4, ((0, 1), (0, 1, 2, 3), (2, 3)), None)
        self.check(5, ((0, 1, 2), (0, 1, 2, 3, 4), (1, 2), (2, 3)), "cross")

    def test_ahead_of_the_later_ones(self):
        self.check(3, ((0, 1), (1, 2), (1,)), "tree")
        self.check(3, ((1, 2), (0, 1)), "tree")
        self.check(3, ((1, 2), (0, 1, 2), (0, 1)), "tree")

    def test_all_sets_of_clusters(self):
        for leaves in (1, 2, 3, 4):
            every = all_clusters(leaves)
            for many in range(min(len(every), 4) + 1):
                for value in combinations(every, many):
                    value = tuple(sorted(value))
                    word = None
                    for one, other in combinations([set(cluster) for cluster in value], 2):
                        if one & other and not one <= other and not other <= one:
                            word = "cross"
                    if leaves > 1 and tuple(range(leaves)) not in value:
                        word = "all"
                    self.check(leaves, value, word)

    def test_many_clusters(self):
        self.check(8, tuple(sorted(all_clusters(8))), "cross")
        self.check(8, tuple(sorted(all_clusters(8)))[::-1], "tree")
        self.check(8, deep(12), "tree")


class TestShows(unittest.TestCase):
    def test_by_hand(self):
        self.assertEqual([shows(W, FIRST), shows(W, SECOND)], [(0,), (1,)])
        self.assertIsNone(shows(W, ((0, 1, 2), (0, 2))))
        self.assertIsNone(shows(W, ((0, 1, 2),)))
        self.assertEqual(shows(TREE, tree(TREE, ())), ())
        # Both choices show it, and the first is told.
        self.assertEqual([shows(ABOVE, FIRST), how_often(ABOVE, FIRST)], [(0,), 2])

    def test_each_tree(self):
        for web in SAMPLES + [MANY]:
            found = plain_trees(web)
            for told in set(found.values()):
                first = min(choice for choice in found if found[choice] == told)
                self.assertEqual(shows(web, told), first)
                self.assertIs(type(shows(web, told)), tuple)
                self.assertEqual(how_often(web, told), list(found.values()).count(told))

    def test_trees_not_shown(self):
        for web in SAMPLES:
            shown = trees(web)
            for value in [told for other in SAMPLES[::3] for told in trees(other)]:
                if value not in shown:
                    self.assertIsNone(shows(web, value))
                    self.assertEqual(how_often(web, value), 0)

    def test_any_values(self):
        values = ANY_VALUES + (list(FIRST), (list(FIRST[0]), FIRST[1]), FIRST[::-1], FIRST[:1], W,
                               ((0, True), (0, 1, 2)), ((False, 1), (0, 1, 2)), ((0, 1), (0, True, 2)))
        for web in (W, ABOVE, THREE, FLAT):
            for value in values:
                before = repr(value)
                self.assertIsNone(shows(web, value))
                self.assertEqual(how_often(web, value), 0)
                self.assertIs(type(how_often(web, value)), int)
                self.assertEqual(repr(value), before)
        self.assertIsNone(shows(CHERRY, ((False, True),)))
        self.assertIsNone(shows(CHERRY, ((0, True),)))
        self.assertEqual(how_often(CHERRY, ((0, True),)), 0)
        for value in ([], {}, "", None, False, 0, ((),)):
            self.assertIsNone(shows(ONE, value))
            self.assertEqual(how_often(ONE, value), 0)


class TestClusters(unittest.TestCase):
    def test_by_hand(self):
        self.assertEqual(soft(W), ((0, 1), (0, 1, 2), (1, 2)))
        self.assertEqual([soft(ABOVE), hard(ABOVE)], [((0, 1), (0, 1, 2)), ((0, 1), (0, 1, 2))])
        # The kind 7 of LADDER has all leaves but 3 beneath, 8 all but 2.
        self.assertEqual(hard(LADDER), ((0, 1), (0, 1, 2), (0, 1, 2, 3), (0, 1, 3)))
        self.assertEqual(soft(LADDER), ((0, 1), (0, 1, 2), (0, 1, 2, 3), (0, 1, 3), (0, 2), (1, 3)))

    def test_soft(self):
        for web in SAMPLES + [MANY]:
            found = {cluster for told in plain_trees(web).values() for cluster in told}
            self.assertEqual(soft(web), tuple(sorted(found)))

    def test_hard(self):
        for web in SAMPLES + [FULL]:
            below = [tuple(leaf for leaf, number in enumerate(row) if number)
                     for row in plain_rows(web).values()]
            self.assertEqual(hard(web), tuple(sorted({some for some in below if len(some) > 1})))


class TestBacked(unittest.TestCase):
    def test_by_hand(self):
        self.assertEqual([backed(W, some) for some in all_clusters(3)],
                         [(1, 2), (0, 1), (1, 2), (1, 1)])
        self.assertEqual([backed(THREE, (0, leaf)) for leaf in (1, 2, 3)], [(1, 3)] * 3)
        self.assertEqual(backed(TREE, (0, 2)), (0, 1))
        self.assertEqual(backed(FLAT, tuple(range(8))), (1, 1))

    def test_all_choices(self):
        for web in SAMPLES + [MANY]:
            told = list(plain_trees(web).values())
            for some in all_clusters(web[0])[:60]:
                part = Fraction(sum(some in found for found in told), len(told))
                self.assertEqual(backed(web, some), (part.numerator, part.denominator))
                self.assertEqual({type(number) for number in backed(web, some)}, {int})


class TestAllFunctions(unittest.TestCase):
    def test_somewhat_beyond_the_bounds(self):
        web = comb((2, 3, 4, 4, 4))
        self.assertIsNone(web_error(web))
        self.assertEqual(choices(web), 384)
        self.assertEqual(trees(web), tuple(sorted(set(plain_trees(web).values()))))
        self.assertEqual(backed(web, tuple(range(6))), (1, 1))
        self.assertEqual(len(trees(OVERFULL)), len(set(plain_trees(OVERFULL).values())))

    def test_webs_stay_as_they_were_and_answers_the_same(self):
        def answers(web):
            shown = trees(web)
            return [choices(web), shown, soft(web), hard(web), shows(web, shown[-1]),
                    how_often(web, shown[0]), tree(web, shows(web, shown[0]))]

        kept = copy.deepcopy(SAMPLES)
        first = [answers(web) for web in SAMPLES]
        again = [answers(web) for web in SAMPLES[::-1]]
        self.assertEqual(first, again[::-1])
        self.assertEqual(SAMPLES, kept)


if __name__ == "__main__":
    unittest.main()
