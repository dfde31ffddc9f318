"""Links struck and put in, against the document's words written out plainly."""

import copy
import unittest

from samples import (ABOVE, ANY_VALUES, BIG, BROAD, CHERRY, FLAT, FULL, LADDER, ONE, OVERFULL, THREE,
                     W, WEBS, Draws, deep, drawn_webs, numbered_otherwise, numberings, plain_children,
                     plain_parents, small_webs, tower)
from wayrows.edits import grafted, neighbours, spots, struck
from wayrows.errors import BadGraft, NoLink, WebError
from wayrows.forms import beside, form
from wayrows.webs import links, mixings, root, web_error

TREE = (3, ((0, 1), (2, 3)))
STAR = (3, ((0, 1, 2),))
V = (3, ((1,), (2, 3), (0, 3), (4, 5)))
# Two mixings above leaves 1 and 2 that share both parents; a chain of plain kinds above them.
TWINS = (4, ((1,), (2,), (0, 4, 5), (3, 4, 5), (6, 7)))
SAMPLES = small_webs() + list(WEBS[:-1]) + drawn_webs(24, 61) + [LADDER, TWINS, tower(2, 3)]


def chain(many):
    """A web of two leaves with a mixing above leaf 0 and so many inner kinds, at least 3."""
    return (2, ((0,), (1, 2)) + tuple((2, kind) for kind in range(3, many + 1)))


def form_of_graph(leaves, below):
    """The form of the web with these children of its kinds, which have any names."""
    names, inner = {leaf: leaf for leaf in range(leaves)}, []
    while len(names) < len(below):
        for kind in below:
            if kind not in names and all(child in names for child in below[kind]):
                names[kind] = leaves + len(inner)
                inner.append(tuple(sorted(names[child] for child in below[kind])))
    web = (leaves, tuple(inner))
    assert web_error(web) is None, web
    return form(web)


def plain_struck(web, parent, child):
    """The web without the link: kinds with one child and at most one parent go, one by one."""
    below = {kind: list(told) for kind, told in plain_children(web).items()}
    below[parent].remove(child)
    while True:
        above = {kind: [upper for upper in below if kind in below[upper]] for kind in below}
        thin = [kind for kind in below if len(below[kind]) == 1 and len(above[kind]) < 2]
        if not thin:
            return form_of_graph(web[0], below)
        kind = thin[-1]
        for upper in above[kind]:
            below[upper][below[upper].index(kind)] = below[kind][0]
        del below[kind]


def plain_begins(web):
    """All spots from which a link may go out, in order."""
    mixed = mixings(web)
    found = [("in", kind) for kind in range(web[0], root(web) + 1) if kind not in mixed]
    return found + [("on",) + link for link in links(web)] + [("over",)]


def plain_ends(web):
    """All spots to which a link may go, in order."""
    mixed = mixings(web)
    return [("in", kind) for kind in mixed] + [("on",) + link for link in links(web)
                                               if link[1] not in mixed]


def plain_grafted(web, begin, end):
    """The form of the web with the link put in, or the first word of BadGraft that applies."""
    if begin not in plain_begins(web):
        return "begin"
    if end not in plain_ends(web):
        return "end"
    if begin == end:
        return "same"
    below = {kind: list(told) for kind, told in plain_children(web).items()}
    if begin[0] == "over":
        below["begin"] = [root(web)]
    for name, spot in (("begin", begin), ("end", end)):
        if spot[0] == "on":
            below[spot[1]][below[spot[1]].index(spot[2])] = name
            below[name] = [spot[2]]
    upper = begin[1] if begin[0] == "in" else "begin"
    lower = end[1] if end[0] == "in" else "end"
    seen, todo = set(), [lower]
    while todo:
        kind = todo.pop()
        seen.add(kind)
        todo.extend(below[kind])
    if upper in seen:
        return "ring"
    if lower in below[upper]:
        return "twice"
    below[upper].append(lower)
    found = [child for kind in below for child in below[kind]]
    for kind in below:
        if below[kind] and all(found.count(child) > 1 for child in below[kind]):
            return "bare"
    if len(below) - web[0] > 20:
        return "kinds"
    return form_of_graph(web[0], below)


class EditsTest(unittest.TestCase):
    def check_no_link(self, web, parent, child):
        with self.assertRaises(NoLink) as held:
            struck(web, parent, child)
        self.assertIsInstance(held.exception, WebError)
        self.assertIs(held.exception.parent, parent)
        self.assertIs(held.exception.child, child)

    def check_bad(self, web, begin, end, word):
        before = (repr(begin), repr(end))
        with self.assertRaises(BadGraft) as held:
            grafted(web, begin, end)
        self.assertEqual(held.exception.word, word, (web, begin, end))
        self.assertEqual((repr(begin), repr(end)), before)

    def check_form(self, web):
        self.assertIsNone(web_error(web))
        self.assertEqual(form(web), web)


class TestStruck(EditsTest):
    def test_document(self):
        self.assertEqual(struck(W, 5, 3), (3, ((0, 1), (2, 3))))

    def test_mixing_with_two_parents(self):
        self.assertEqual(struck(W, 4, 3), (3, ((1, 2), (0, 3))))
        # The mixing and the parent struck go; the mixing stood above a kind with children.
        self.assertEqual(struck(ABOVE, 6, 4), TREE)
        self.assertEqual(struck(ABOVE, 5, 4), TREE)

    def test_mixing_with_three_parents(self):
        self.assertEqual(struck(THREE, 5, 4), form((4, ((0,), (2, 4), (3, 4), (1, 5, 6)))))
        self.assertEqual(struck(THREE, 7, 4), form((4, ((0,), (1, 4), (2, 4), (3, 5, 6)))))

    def test_parent_with_three_children_and_more(self):
        # Mixing 5 above leaf 1, mixing 6 above leaf 3; parent 7 keeps three children.
        self.assertEqual(struck(BROAD, 7, 5), form((5, ((3,), (0, 2, 5), (1, 4), (5, 6, 7)))))
        self.assertEqual(struck(BROAD, 9, 6), form((5, ((1,), (0, 2, 3, 5), (4, 5), (6, 7)))))

    def test_root_goes(self):
        # The root's children are the mixing and a kind above its other parent.
        web = (3, ((0,), (1, 3), (2, 4), (3, 5)))
        self.assertIsNone(web_error(web))
        self.assertEqual(struck(web, 6, 3), (3, ((0, 1), (2, 3))))
        self.assertEqual(struck(web, 4, 3), (3, ((1, 2), (0, 3))))
        self.assertEqual(struck(chain(3), 4, 2), CHERRY)
        self.assertEqual(struck(chain(4), 5, 2), form(chain(3)))
        self.assertEqual(struck(chain(4), 4, 2), form(chain(3)))

    def test_mixing_beneath_a_mixing(self):
        for parent, child in ((5, 4), (8, 4), (7, 6), (8, 6)):
            self.assertEqual(struck(LADDER, parent, child), plain_struck(LADDER, parent, child))
        self.assertEqual(struck(LADDER, 5, 4), form((4, ((0,), (2, 4), (1, 3, 4), (5, 6)))))

    def test_all_links_into_mixings(self):
        for web in SAMPLES + [FULL, OVERFULL]:
            mixed = mixings(web)
            for parent, child in links(web):
                if child in mixed:
                    told = struck(web, parent, child)
                    self.check_form(told)
                    self.assertEqual(told, plain_struck(web, parent, child))
                    self.assertEqual(told[0], web[0])

    def test_no_link(self):
        for web in (W, ONE, CHERRY, ABOVE, THREE, LADDER, TREE, FULL):
            mixed, found = mixings(web), links(web)
            for parent in range(root(web) + 1):
                for child in range(root(web) + 1):
                    if (parent, child) not in found or child not in mixed:
                        self.check_no_link(web, parent, child)

    def test_no_kinds(self):
        for parent, child in ((5, -4), (-2, 3), (7, 3), (5, True), (BIG, 3), (None, None), ("5", "3"),
                              ((5,), 3), ([5], {}), (True, 0)):
            self.check_no_link(W, parent, child)

    def test_numbered_otherwise(self):
        web = (3, ((1,), (2, 3), (0, 3), (4, 5)))
        self.assertEqual(struck(web, 4, 3), struck(W, 5, 3))
        for other in numberings(LADDER):
            told = {struck(other, parent, child) for parent, child in links(other)
                    if child in mixings(other)}
            self.assertEqual(told, {struck(LADDER, 5, 4), struck(LADDER, 8, 4),
                                    struck(LADDER, 7, 6), struck(LADDER, 8, 6)})


class TestGrafted(EditsTest):
    def test_document(self):
        self.assertEqual(grafted(TREE, ("on", 4, 2), ("on", 3, 1)), form(W))

    def test_from_a_plain_kind(self):
        self.assertEqual(grafted(TREE, ("in", 4), ("on", 3, 1)),
                         form((3, ((1,), (0, 3), (2, 3, 4)))))
        self.assertEqual(grafted(THREE, ("in", 8), ("in", 4)),
                         form((4, ((0,), (1, 4), (2, 4), (3, 4), (4, 5, 6, 7)))))

    def test_from_a_link(self):
        self.assertEqual(grafted(W, ("on", 6, 4), ("in", 3)),
                         form((3, ((1,), (0, 3), (2, 3), (3, 4), (5, 6)))))
        self.assertEqual(grafted(TREE, ("on", 3, 0), ("on", 3, 1)),
                         form((3, ((1,), (0, 3), (3, 4), (2, 5)))))

    def test_from_over_the_root(self):
        self.assertEqual(grafted(CHERRY, ("over",), ("on", 2, 0)), form((2, ((0,), (1, 2), (2, 3)))))
        self.assertEqual(grafted(W, ("over",), ("in", 3)),
                         form((3, ((1,), (0, 3), (2, 3), (4, 5), (3, 6)))))

    def test_above_a_kind_with_children(self):
        self.assertEqual(grafted((4, ((0, 1), (2, 4), (3, 5))), ("on", 6, 3), ("on", 5, 4)),
                         form((4, ((0, 1), (4,), (2, 5), (3, 5), (6, 7)))))

    def test_begin(self):
        good = ("on", 3, 1)
        for value in (("in", 0), ("in", 2), ("in", 5), ("in", -1), ("in", BIG), ("in", True), ("in", "3"),
                      ("in",), ("in", 3, 4), ("in", None), ("in", (3,)), ("on", 4, 0), ("on", 3, 4),
                      ("on", 3), ("on", 4, 3, 2), ("on",), ("on", 0, 0), ("on", 5, 4), ("on", -1, 0),
                      ("over", 4), ("over", ()), ("above",), ("IN", 4), (4,), (), ["in", 4],
                      ["on", 4, 2], ["over"], "over", "in", ("in", [4]), {"in": 4}, (("in", 4),),
                      ("on", 4, None), ("on", [4], 2), ("on", "4", "2"), ("on", (4, 2))):
            self.check_bad(TREE, value, good, "begin")
        # True and False are no kinds, though Python calls them equal to 1 and 0.
        self.check_bad(TREE, ("on", 3, False), good, "begin")
        self.check_bad(TREE, ("on", 3, True), ("on", 3, 0), "begin")
        self.check_bad(CHERRY, ("on", 2, True), ("on", 2, 0), "begin")
        self.check_bad(W, ("in", 3), ("in", 3), "begin")
        self.check_bad(W, ("in", 3), ("on", 4, 0), "begin")

    def test_end(self):
        good = ("on", 4, 2)
        for value in (("in", 0), ("in", 3), ("in", 4), ("in", 5), ("in", -1), ("in", True), ("in",),
                      ("on", 3, 2), ("on", 4, 3, 2), ("on", 3, True), ("on", 3, False), ("over",),
                      ("over", 3), (), (3,), ["on", 3, 1], "over", ("on", 3), ("out", 3, 1)):
            self.check_bad(TREE, good, value, "end")
        # A link into a mixing may be a begin, but no end; a plain kind likewise.
        for value in (("on", 4, 3), ("on", 5, 3), ("in", 4), ("in", 6), ("in", 2), ("over",)):
            self.check_bad(W, ("in", 6), value, "end")

    def test_any_values(self):
        values = ANY_VALUES + WEBS + (W[1], spots(W), spots(W)[0], BadGraft("end"), deep(12))
        for value in values:
            self.check_bad(W, value, ("in", 3), "begin")
            self.check_bad(W, ("in", 6), value, "end")
            self.check_bad(W, value, value, "begin")
            for other in (("in", value), ("on", value, value), (value,), (value, 4), (value, 4, 0)):
                if other not in plain_begins(W):
                    self.check_bad(W, other, ("in", 3), "begin")
                if other not in plain_ends(W):
                    self.check_bad(W, ("in", 6), other, "end")
        for other in (("on", 4, True), ("on", True, 4)):
            self.check_bad(W, other, ("in", 3), "begin")

    def test_same(self):
        for web in (W, TREE, CHERRY, LADDER):
            for link in links(web):
                if link[1] not in mixings(web):
                    self.check_bad(web, ("on",) + link, ("on",) + link, "same")
        # It would be bare as well: leaf 1 is the mixing's only child.
        self.check_bad(W, ("on", 3, 1), ("on", 3, 1), "same")

    def test_ring(self):
        self.check_bad(TREE, ("in", 3), ("on", 4, 3), "ring")
        self.check_bad(TREE, ("on", 3, 0), ("on", 4, 3), "ring")
        self.check_bad(W, ("on", 3, 1), ("in", 3), "ring")
        self.check_bad(ABOVE, ("in", 3), ("in", 4), "ring")
        self.check_bad(ABOVE, ("on", 3, 0), ("in", 4), "ring")
        self.check_bad(ABOVE, ("in", 3), ("on", 4, 3), "ring")

    def test_twice(self):
        self.check_bad(W, ("in", 4), ("in", 3), "twice")
        self.check_bad(W, ("on", 4, 3), ("in", 3), "twice")
        self.check_bad(W, ("in", 4), ("on", 4, 0), "twice")
        self.check_bad(TREE, ("in", 4), ("on", 4, 2), "twice")
        self.check_bad(STAR, ("in", 3), ("on", 3, 0), "twice")

    def test_bare(self):
        # The new kind has two mixings; a kind's only plain child gets a mixing ahead of it.
        self.check_bad(W, ("on", 4, 3), ("on", 5, 2), "bare")
        self.check_bad(LADDER, ("on", 8, 4), ("in", 6), "bare")
        self.check_bad(W, ("in", 6), ("on", 4, 0), "bare")
        self.check_bad(W, ("over",), ("on", 3, 1), "bare")
        self.check_bad(W, ("on", 5, 2), ("on", 4, 0), "bare")

    def test_one_new_kind_at_the_bound(self):
        for many in (18, 19, 20):
            web = chain(many)
            for begin in (("over",), ("on", root(web), root(web) - 1)):
                if many == 20:
                    self.check_bad(web, begin, ("in", 2), "kinds")
                else:
                    told = grafted(web, begin, ("in", 2))
                    self.check_form(told)
                    self.assertEqual(len(told[1]), many + 1)
        self.check_bad(FULL, ("over",), ("in", 8), "kinds")
        self.check_bad(FULL, ("on", 27, 26), ("in", 8), "kinds")
        # No new kind: the same number as before.
        told = grafted(FULL, ("in", 27), ("in", 8))
        self.check_form(told)
        self.assertEqual(len(told[1]), 20)

    def test_two_new_kinds_at_the_bound(self):
        # With 18 kinds it may be done, with 19 it may not.
        web = beside(chain(17), ONE)
        pairs = [pair for pair in spots(web) if pair[0][0] != "in" and pair[1][0] == "on"]
        self.assertGreater(len(pairs), 10)
        for begin, end in pairs:
            told = grafted(web, begin, end)
            self.check_form(told)
            self.assertEqual(len(told[1]), 20)
        web = beside(chain(18), ONE)
        for begin, end in (("over",), ("on", 21, 2)), (("on", 20, 19), ("on", 21, 2)):
            self.check_bad(web, begin, end, "kinds")
        for begin, end in spots(web):
            self.assertTrue(begin[0] == "in" or end[0] == "in")

    def test_ahead_of_the_later_ones(self):
        self.check_bad(W, ("in", 0), ("in", 4), "begin")
        self.check_bad(W, ("on", 5, 2), ("in", 4), "end")
        # Both a ring and bare; a ring and too many kinds; twice and bare; twice and too many kinds.
        self.check_bad(ABOVE, ("on", 3, 1), ("on", 4, 3), "ring")
        self.check_bad(FULL, ("on", 8, 1), ("in", 8), "ring")
        self.check_bad(W, ("on", 5, 3), ("in", 3), "twice")
        self.check_bad(FULL, ("on", 21, 8), ("in", 8), "twice")
        self.check_bad(FULL, ("in", 27), ("on", 27, 26), "twice")
        self.check_bad(FULL, ("on", 21, 8), ("in", 9), "bare")
        self.check_bad(FULL, ("on", 15, 0), ("on", 15, 0), "same")

    def test_all_pairs_of_spots(self):
        seen = set()
        for web in SAMPLES:
            for begin in plain_begins(web):
                for end in plain_ends(web):
                    expected = plain_grafted(web, begin, end)
                    if isinstance(expected, str):
                        self.check_bad(web, begin, end, expected)
                        seen.add(expected)
                    else:
                        told = grafted(web, begin, end)
                        self.assertEqual(told, expected, (web, begin, end))
                        self.check_form(told)
        self.assertLessEqual({"same", "ring", "twice", "bare"}, seen)

    def test_pairs_of_spots_of_full_webs(self):
        draws = Draws(62)
        for web in (FULL, tower(6, 2), tower(4, 4)):
            for begin in draws.some(plain_begins(web), 12) + [("over",)]:
                for end in draws.some(plain_ends(web), 9):
                    expected = plain_grafted(web, begin, end)
                    if isinstance(expected, str):
                        self.check_bad(web, begin, end, expected)
                    else:
                        self.assertEqual(grafted(web, begin, end), expected)

    def test_struck_again_leads_back(self):
        for web in SAMPLES:
            for begin, end in spots(web):
                told = grafted(web, begin, end)
                back = [struck(told, parent, child) for parent, child in links(told)
                        if child in mixings(told)]
                self.assertIn(form(web), back, (web, begin, end))


class TestSpots(EditsTest):
    def test_by_hand(self):
        self.assertEqual(spots(ONE), ())
        self.assertEqual(spots(CHERRY), ((("on", 2, 0), ("on", 2, 1)), (("on", 2, 1), ("on", 2, 0)),
                                         (("over",), ("on", 2, 0)), (("over",), ("on", 2, 1))))

    def test_all_pairs_tried(self):
        for web in SAMPLES:
            expected = [(begin, end) for begin in plain_begins(web) for end in plain_ends(web)
                        if not isinstance(plain_grafted(web, begin, end), str)]
            self.assertEqual(spots(web), tuple(sorted(expected)))
            self.assertEqual(spots(web), tuple(sorted(set(spots(web)))))

    def test_full_webs(self):
        self.assertTrue(all(begin[0] == end[0] == "in" for begin, end in spots(FULL)))
        self.assertIn((("in", 27), ("in", 8)), spots(FULL))
        self.assertEqual(spots(OVERFULL), ())

    def test_what_is_told_may_be_passed_on(self):
        for begin, end in spots(W):
            self.check_form(grafted(web=W, end=end, begin=begin))


class TestNeighbours(EditsTest):
    def test_by_hand(self):
        self.assertEqual(neighbours(ONE), ())
        self.assertEqual(neighbours(CHERRY), ((2, ((0,), (1, 2), (2, 3))), (2, ((1,), (0, 2), (2, 3)))))
        self.assertIn(TREE, neighbours(W))
        self.assertIn(form(W), neighbours(TREE))

    def test_each_form_once_ascending(self):
        for web in SAMPLES:
            found = {plain_grafted(web, begin, end) for begin in plain_begins(web)
                     for end in plain_ends(web)}
            found = {told for told in found if not isinstance(told, str)}
            found |= {plain_struck(web, parent, child) for parent, child in links(web)
                      if child in mixings(web)}
            self.assertEqual(neighbours(web), tuple(sorted(found)))

    def test_alike_webs_have_the_same(self):
        draws = Draws(63)
        self.assertEqual(neighbours(V), neighbours(W))
        for web in SAMPLES[::4]:
            self.assertEqual(neighbours(numbered_otherwise(web, draws)), neighbours(web))

    def test_neighbours_of_each_other(self):
        for web in (W, TREE, CHERRY, ABOVE, (4, ((0, 1), (2, 4), (3, 5)))):
            for told in neighbours(web):
                self.assertIn(form(web), neighbours(told))


class TestAllFunctions(EditsTest):
    def test_somewhat_beyond_the_bounds(self):
        self.check_bad(OVERFULL, ("over",), ("in", 8), "kinds")
        told = struck(OVERFULL, 22, 8)
        self.assertLessEqual(len(told[1]), 20)
        self.check_form(told)
        self.assertGreater(len(neighbours(OVERFULL)), 0)

    def test_webs_stay_as_they_were_and_answers_the_same(self):
        def answers(web):
            return [spots(web), neighbours(web)] + [grafted(web, *pair) for pair in spots(web)[:4]]

        webs = SAMPLES + [FLAT]
        kept = copy.deepcopy(webs)
        first = [answers(web) for web in webs]
        again = [answers(web) for web in webs[::-1]]
        self.assertEqual(first, again[::-1])
        self.assertEqual(webs, kept)


if __name__ == "__main__":
    unittest.main()
