"""Forms, and the webs made of others in their form."""

import copy
import unittest
from itertools import permutations

from samples import (ABOVE, BROAD, CHERRY, FLAT, FULL, LADDER, ONE, OVERFULL, THREE, W, WEBS, Draws,
                     drawn_webs, numbered_otherwise, numberings, pairs_of_webs, plain_children,
                     plain_matches, plain_parents, plain_rows, small_webs, tower)
from wayrows.errors import TooMany, WebError
from wayrows.forms import beside, form, renamed, under
from wayrows.rows import lot
from wayrows.webs import root, web_error

V = (3, ((1,), (2, 3), (0, 3), (4, 5)))
TREE = (3, ((0, 1), (2, 3)))
TWO_WAYS = (2, ((0,), (1, 2), (2, 3)))
# Numbers of leaves and of inner kinds at a web's bounds: 8 and 20, 5 and 20, 7 and 18.
BIGGEST = (FULL, tower(4, 4), tower(6, 2))


def chain(many):
    """A web of two leaves with a mixing above leaf 0 and so many inner kinds, at least 3."""
    return (2, ((0,), (1, 2)) + tuple((2, kind) for kind in range(3, many + 1)))


def plain_form(web):
    """The form by the document's words: the numbering in which the rows ascend, the child first."""
    leaves = web[0]
    rows, above = plain_rows(web), plain_parents(web)
    order = sorted([kind for kind in rows if kind >= leaves],
                   key=lambda kind: (rows[kind], len(above[kind]) > 1))
    below = plain_children(web)
    numbers = {kind: kind for kind in range(leaves)}
    numbers.update({kind: leaves + at for at, kind in enumerate(order)})
    return (leaves, tuple(tuple(sorted(numbers[child] for child in below[kind]))
                          for kind in order))


def plain_graph(web, names):
    """The web as a dict from its kinds, named by names or by themselves, to their children."""
    below = plain_children(web)
    named = {kind: names.get(kind, kind) for kind in below}
    return {named[kind]: {named[child] for child in below[kind]} for kind in below}


def is_graph(web, graph):
    """Whether a web has the kinds and children of the graph, its leaves being ("leaf", number)."""
    goals = {("leaf", leaf): leaf for leaf in range(web[0])}
    below = plain_children(web)
    while len(goals) < len(graph):
        for name in graph:
            if name not in goals and all(child in goals for child in graph[name]):
                found = [kind for kind in below
                         if set(below[kind]) == {goals[child] for child in graph[name]} and below[kind]]
                if len(found) != 1:
                    return False
                goals[name] = found[0]
    return sorted(goals.values()) == sorted(below)


class FormsTest(unittest.TestCase):
    def check_form(self, web):
        self.assertIsNone(web_error(web))
        self.assertEqual(form(web), web)
        self.assertEqual(plain_form(web), web)


class TestForm(FormsTest):
    def test_document(self):
        self.assertEqual(form(W), V)

    def test_forms_already(self):
        for web in (ONE, CHERRY, FLAT, V, TREE, TWO_WAYS, (3, ((0, 1, 2),)), chain(5)):
            self.assertEqual(form(web), web)

    def test_mixings_above_leaves(self):
        # The rows of 5, 6 and 7 descend, as each has the mixing and a leaf of its own.
        self.assertEqual(form(THREE), (4, ((0,), (3, 4), (2, 4), (1, 4), (5, 6, 7))))
        self.assertEqual(form((2, ((1,), (0, 2), (2, 3)))), (2, ((1,), (0, 2), (2, 3))))

    def test_mixings_above_other_kinds(self):
        self.assertEqual(form(ABOVE), ABOVE)
        # The rows of 6 and 7 are (1, 1, 0, 1) and (1, 1, 1, 0); exchanged in the second web.
        web = (4, ((0, 1), (4,), (3, 5), (2, 5), (6, 7)))
        self.assertEqual(form(web), (4, ((0, 1), (4,), (3, 5), (2, 5), (6, 7))))
        web = (4, ((0, 1), (4,), (2, 5), (3, 5), (6, 7)))
        self.assertEqual(form(web), (4, ((0, 1), (4,), (3, 5), (2, 5), (6, 7))))

    def test_child_ahead_of_its_mixing_and_both_among_others(self):
        # Rows: 4 (1,1,0,0), 5 the same, 6 (0,0,1,1), 7 (1,1,1,1), 8 (2,2,1,1).
        web = (4, ((0, 1), (4,), (2, 3), (5, 6), (5, 7)))
        self.assertEqual(form(web), (4, ((2, 3), (0, 1), (5,), (4, 6), (6, 7))))

    def test_all_numberings_have_one_form(self):
        for web in (W, ABOVE, THREE, BROAD, LADDER, tower(2, 3)) + tuple(small_webs()):
            self.assertEqual({form(other) for other in numberings(web)}, {plain_form(web)})

    def test_drawn_webs_numbered_otherwise(self):
        draws = Draws(17)
        for web in drawn_webs(24, 18) + list(BIGGEST):
            told = form(web)
            self.check_form(told)
            self.assertEqual(form(numbered_otherwise(web, draws)), told)
            self.assertEqual(len(plain_matches(web, told)), 1)

    def test_equal_exactly_if_alike(self):
        for one, other in pairs_of_webs():
            self.assertEqual(form(one) == form(other), len(plain_matches(one, other)) == 1)

    def test_lot_stays(self):
        for web in WEBS + tuple(drawn_webs(16, 19)):
            self.assertEqual(lot(form(web)), lot(web))

    def test_somewhat_beyond_the_bounds(self):
        self.assertEqual(form(form(OVERFULL)), form(OVERFULL))
        self.assertEqual(lot(form(OVERFULL)), lot(OVERFULL))


class TestRenamed(FormsTest):
    def test_names_as_they_are(self):
        for web in WEBS + tuple(drawn_webs(16, 20)):
            self.assertEqual(renamed(web, tuple(range(web[0]))), form(web))

    def test_turned_about(self):
        self.assertEqual(renamed(W, (2, 1, 0)), V)
        self.assertEqual(renamed(W, (1, 0, 2)), (3, ((0,), (2, 3), (1, 3), (4, 5))))
        self.assertEqual(renamed(CHERRY, (1, 0)), CHERRY)
        self.assertEqual(renamed(TREE, (2, 1, 0)), (3, ((1, 2), (0, 3))))
        self.assertEqual(renamed(TWO_WAYS, (1, 0)), (2, ((1,), (0, 2), (2, 3))))

    def test_leaf_k_has_the_number_names_k(self):
        # Leaf 0 gets the number 1, leaf 1 the number 2, leaf 2 the number 0; not the reverse.
        self.assertEqual(renamed(TREE, (1, 2, 0)), (3, ((1, 2), (0, 3))))
        self.assertEqual(renamed(TREE, (2, 0, 1)), (3, ((0, 2), (1, 3))))

    def test_all_names(self):
        for web in [W, ABOVE, THREE, TREE] + [web for web in small_webs() if web[0] < 4]:
            for names in permutations(range(web[0])):
                told = renamed(web, names)
                self.check_form(told)
                moved = {leaf: ("leaf", names[leaf]) for leaf in range(web[0])}
                self.assertTrue(is_graph(told, plain_graph(web, moved)))

    def test_led_back(self):
        draws = Draws(21)
        for web in drawn_webs(24, 22) + list(BIGGEST):
            names = tuple(draws.some(range(web[0]), web[0]))
            back = tuple(names.index(leaf) for leaf in range(web[0]))
            self.assertEqual(renamed(renamed(web, names), back), form(web))

    def test_rows_move_with_the_names(self):
        for web in drawn_webs(16, 23):
            names = tuple(range(1, web[0])) + (0,)
            moved = sorted(tuple(row[names.index(at)] for at in range(web[0])) for row in lot(web))
            self.assertEqual(lot(renamed(web, names)), tuple(moved))


class TestUnder(FormsTest):
    def check_under(self, web, leaf, other):
        told = under(web, leaf, other)
        self.check_form(told)
        self.assertEqual(told[0], web[0] - 1 + other[0])
        moved = {at: ("leaf", at if at < leaf else at - 1) for at in range(web[0])}
        moved.update({kind: ("web", kind) for kind in range(web[0], root(web) + 1)})
        low = {at: ("leaf", web[0] - 1 + at) for at in range(other[0])}
        low.update({kind: ("other", kind) for kind in range(other[0], root(other) + 1)})
        moved[leaf] = low[root(other)]
        graph = plain_graph(web, moved)
        graph.update(plain_graph(other, low))
        self.assertTrue(is_graph(told, graph))

    def test_by_hand(self):
        self.assertEqual(under(CHERRY, 0, CHERRY), (3, ((1, 2), (0, 3))))
        self.assertEqual(under(CHERRY, 1, CHERRY), (3, ((1, 2), (0, 3))))
        self.assertEqual(under(TREE, 2, CHERRY), (4, ((2, 3), (0, 1), (4, 5))))
        self.assertEqual(under(TREE, 0, CHERRY), (4, ((2, 3), (0, 4), (1, 5))))
        self.assertEqual(under(CHERRY, 0, TWO_WAYS), (3, ((1,), (2, 3), (3, 4), (0, 5))))

    def test_beneath_a_mixing(self):
        # The mixing, 5, has the root of the other web as its child now.
        self.assertEqual(under(W, 1, CHERRY), (4, ((2, 3), (4,), (1, 5), (0, 5), (6, 7))))
        self.assertEqual(under(TWO_WAYS, 0, TREE), (4, ((1, 2), (3, 4), (5,), (0, 6), (6, 7))))

    def test_one_leaf_on_either_side(self):
        for web in WEBS:
            self.assertEqual(under(ONE, 0, web), form(web))
            for leaf in range(web[0]):
                names = tuple(at if at < leaf else at - 1 for at in range(web[0]))
                names = names[:leaf] + (web[0] - 1,) + names[leaf + 1:]
                self.assertEqual(under(web, leaf, ONE), renamed(web, names))
        self.assertEqual(under(ONE, 0, ONE), ONE)
        self.assertEqual(under(TREE, 0, ONE), (3, ((0, 2), (1, 3))))

    def test_each_leaf(self):
        small = [W, V, CHERRY, TREE, TWO_WAYS, ONE, ABOVE, LADDER, chain(5)] + drawn_webs(6, 24, 2, 4)
        for web in small:
            for other in small:
                for leaf in range(web[0]):
                    self.check_under(web, leaf, other)

    def test_alike_webs_hung_up_alike(self):
        draws = Draws(25)
        for web in drawn_webs(8, 26, 2, 4):
            for other in drawn_webs(4, 27, 2, 4):
                self.assertEqual(under(numbered_otherwise(web, draws), 1,
                                       numbered_otherwise(other, draws)), under(web, 1, other))


class TestBeside(FormsTest):
    def check_beside(self, one, other):
        told = beside(one, other)
        self.check_form(told)
        self.assertEqual(told[0], one[0] + other[0])
        first = {at: ("leaf", at) for at in range(one[0])}
        first.update({kind: ("one", kind) for kind in range(one[0], root(one) + 1)})
        second = {at: ("leaf", one[0] + at) for at in range(other[0])}
        second.update({kind: ("other", kind) for kind in range(other[0], root(other) + 1)})
        graph = plain_graph(one, first)
        graph.update(plain_graph(other, second))
        graph["root"] = {first[root(one)], second[root(other)]}
        self.assertTrue(is_graph(told, graph))

    def test_by_hand(self):
        self.assertEqual(beside(ONE, ONE), CHERRY)
        self.assertEqual(beside(CHERRY, ONE), TREE)
        self.assertEqual(beside(ONE, CHERRY), (3, ((1, 2), (0, 3))))
        self.assertEqual(beside(CHERRY, CHERRY), (4, ((2, 3), (0, 1), (4, 5))))
        self.assertEqual(beside(TWO_WAYS, ONE), (3, ((0,), (1, 3), (3, 4), (2, 5))))
        self.assertEqual(beside(ONE, TWO_WAYS), (3, ((1,), (2, 3), (3, 4), (0, 5))))

    def test_both_ways_about(self):
        small = [W, V, CHERRY, TREE, TWO_WAYS, ONE, ABOVE, LADDER] + drawn_webs(6, 28, 2, 4)
        for one in small:
            for other in small:
                self.check_beside(one, other)
                names = tuple(range(other[0], other[0] + one[0])) + tuple(range(other[0]))
                self.assertEqual(renamed(beside(one, other), names), beside(other, one))


class TestTooMany(FormsTest):
    def check_too_many(self, function, *arguments):
        with self.assertRaises(TooMany) as held:
            function(*arguments)
        self.assertIsInstance(held.exception, WebError)
        self.assertEqual(vars(held.exception), {})

    def test_leaves_under(self):
        star = (5, ((0, 1, 2, 3, 4),))
        self.assertEqual(under(star, 4, (4, ((0, 1, 2, 3),)))[0], 8)
        self.check_too_many(under, star, 4, star)
        self.assertEqual(under(FLAT, 3, ONE), FLAT)
        self.check_too_many(under, FLAT, 3, CHERRY)
        self.assertEqual(under(ONE, 0, FLAT), FLAT)
        self.check_too_many(under, CHERRY, 0, FLAT)
        self.check_too_many(under, FLAT, 0, FLAT)

    def test_leaves_beside(self):
        star = (4, ((0, 1, 2, 3),))
        self.assertEqual(beside(star, star)[0], 8)
        self.check_too_many(beside, star, (5, ((0, 1, 2, 3, 4),)))
        self.check_too_many(beside, (5, ((0, 1, 2, 3, 4),)), star)
        self.check_too_many(beside, FLAT, ONE)
        self.check_too_many(beside, ONE, FLAT)
        self.assertEqual(beside((7, ((0, 1, 2, 3, 4, 5, 6),)), ONE)[0], 8)

    def test_inner_kinds_under(self):
        self.assertEqual(len(under(chain(10), 0, chain(10))[1]), 20)
        self.check_too_many(under, chain(10), 0, chain(11))
        self.check_too_many(under, chain(11), 1, chain(10))
        self.assertEqual(len(under(chain(17), 0, chain(3))[1]), 20)
        self.check_too_many(under, chain(18), 0, chain(3))
        self.assertEqual(under(chain(20), 1, ONE), form(chain(20)))
        self.check_too_many(under, chain(20), 1, CHERRY)
        self.assertEqual(under(ONE, 0, chain(20)), form(chain(20)))

    def test_inner_kinds_beside(self):
        self.assertEqual(len(beside(chain(10), chain(9))[1]), 20)
        self.assertEqual(len(beside(chain(9), chain(10))[1]), 20)
        self.check_too_many(beside, chain(10), chain(10))
        self.assertEqual(len(beside(chain(19), ONE)[1]), 20)
        self.check_too_many(beside, chain(20), ONE)
        self.check_too_many(beside, ONE, chain(20))

    def test_bounds_themselves_are_no_fault(self):
        self.assertEqual(form(FULL)[0], 8)
        self.assertEqual(len(form(FULL)[1]), 20)
        self.assertEqual(len(renamed(FULL, tuple(range(7, -1, -1)))[1]), 20)


class TestAllFunctions(FormsTest):
    def test_tuples_at_every_depth(self):
        for web in (W, LADDER, THREE):
            for told in (form(web), renamed(web, tuple(range(web[0]))), under(web, 1, TWO_WAYS),
                         beside(web, web)):
                self.assertEqual((type(told), len(told), type(told[0])), (tuple, 2, int))
                self.assertIs(type(told[1]), tuple)
                for item in told[1]:
                    self.assertEqual((type(item), {type(kind) for kind in item}), (tuple, {int}))

    def test_webs_stay_as_they_were_and_answers_the_same(self):
        def answers(web):
            return [form(web), renamed(web, tuple(range(web[0]))[::-1]), under(web, 0, TWO_WAYS),
                    under(TWO_WAYS, 1, web), beside(web, W), beside(W, web)]

        webs = drawn_webs(12, 29, 1, 4) + [W, LADDER, ABOVE]
        kept = copy.deepcopy(webs)
        first = [answers(web) for web in webs]
        again = [answers(web) for web in webs[::-1]]
        self.assertEqual(first, again[::-1])
        self.assertEqual(webs, kept)


if __name__ == "__main__":
    unittest.main()
