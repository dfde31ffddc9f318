"""Rows, lots and counts of ways."""

import copy
import unittest

from samples import (ABOVE, BROAD, CHERRY, FLAT, FULL, LADDER, ONE, OVERFULL, THREE, W, WEBS, Draws,
                     drawn_webs, numbered_otherwise, numberings, plain_children, plain_lot,
                     plain_rows, plain_ways, small_webs, tower)
from wayrows.rows import is_beneath, lot, row, ways
from wayrows.webs import mixings, root


def all_rows(web):
    return [row(web, kind) for kind in range(root(web) + 1)]


class TestRow(unittest.TestCase):
    def test_document(self):
        self.assertEqual([row(W, 6), ways(W, 6, 3), lot(W)],
                         [(1, 2, 1), 2, ((0, 0, 1), (0, 1, 0), (0, 1, 0), (0, 1, 1), (1, 0, 0),
                                         (1, 1, 0), (1, 2, 1))])

    def test_leaves(self):
        self.assertEqual(row(ONE, 0), (1,))
        self.assertEqual([row(W, leaf) for leaf in range(3)], [(1, 0, 0), (0, 1, 0), (0, 0, 1)])
        self.assertEqual(row(FLAT, 5), (0, 0, 0, 0, 0, 1, 0, 0))

    def test_mixing_above_a_leaf(self):
        self.assertEqual(row(W, 3), (0, 1, 0))
        self.assertEqual(row(THREE, 4), (1, 0, 0, 0))

    def test_mixing_above_another_kind(self):
        self.assertEqual(row(ABOVE, 4), (1, 1, 0))
        self.assertEqual(row(ABOVE, 3), (1, 1, 0))
        self.assertEqual(row(LADDER, 6), (1, 1, 0, 0))

    def test_root(self):
        self.assertEqual([row(web, root(web)) for web in WEBS],
                         [(1, 2, 1), (1,), (1, 1), (2, 2, 1), (3, 1, 1, 1), (1, 2, 1, 2, 1),
                          (1,) * 8, (1, 2, 2, 2, 2, 2, 2, 2)])

    def test_more_than_one_way(self):
        self.assertEqual(all_rows(LADDER)[7:],
                         [(1, 1, 1, 0), (1, 2, 0, 1), (2, 3, 1, 1)])
        self.assertEqual(all_rows(W)[3:], [(0, 1, 0), (1, 1, 0), (0, 1, 1), (1, 2, 1)])

    def test_numbers_of_ways_grow(self):
        for levels, many in ((1, 2), (6, 2), (5, 3), (4, 4), (1, 19)):
            web = tower(levels, many)
            self.assertEqual(row(web, root(web)),
                             tuple(many ** power for power in range(levels, -1, -1)))
        self.assertEqual(row(tower(4, 4), 24), (256, 64, 16, 4, 1))

    def test_somewhat_beyond_the_bounds(self):
        self.assertEqual(row(OVERFULL, 28), (1, 2, 2, 2, 2, 2, 2, 2))
        nine = (9, ((0, 1, 2, 3, 4, 5, 6, 7, 8),))
        self.assertEqual(row(nine, 9), (1,) * 9)
        self.assertEqual(len(lot(OVERFULL)), 29)


class TestLot(unittest.TestCase):
    def test_in_order_with_equal_rows(self):
        self.assertEqual(lot(ONE), ((1,),))
        self.assertEqual(lot(CHERRY), ((0, 1), (1, 0), (1, 1)))
        self.assertEqual(lot(ABOVE), ((0, 0, 1), (0, 1, 0), (1, 0, 0), (1, 1, 0), (1, 1, 0),
                                      (1, 1, 1), (2, 2, 1)))
        self.assertEqual(lot(THREE).count((1, 0, 0, 0)), 2)
        self.assertEqual(lot(BROAD).count((0, 1, 0, 0, 0)), 2)

    def test_as_many_rows_as_kinds(self):
        for web in WEBS:
            self.assertEqual(len(lot(web)), root(web) + 1)
            self.assertEqual(list(lot(web)), sorted(lot(web)))

    def test_rows_of_a_mixing_and_its_child_alone_are_equal(self):
        for web in WEBS + tuple(drawn_webs(24)):
            told = lot(web)
            self.assertEqual(len(told) - len(set(told)), len(mixings(web)))

    def test_numbered_otherwise(self):
        for web in (W, ABOVE, THREE, BROAD, LADDER, tower(2, 3)):
            for other in numberings(web):
                self.assertEqual(lot(other), lot(web))
        draws = Draws(5)
        for web in drawn_webs(24, 2) + [FULL, tower(4, 4)]:
            self.assertEqual(lot(numbered_otherwise(web, draws)), lot(web))


class TestWays(unittest.TestCase):
    def test_from_a_kind_to_itself(self):
        for web in WEBS:
            for kind in range(root(web) + 1):
                self.assertEqual(ways(web, kind, kind), 1)

    def test_upwards_and_beside(self):
        self.assertEqual(ways(W, 3, 6), 0)
        self.assertEqual(ways(W, 0, 4), 0)
        self.assertEqual(ways(W, 4, 5), 0)
        self.assertEqual(ways(W, 5, 4), 0)
        self.assertEqual(ways(W, 0, 2), 0)
        self.assertEqual(ways(W, 4, 2), 0)
        self.assertEqual(ways(ABOVE, 5, 4), 1)
        self.assertEqual(ways(ABOVE, 4, 5), 0)

    def test_one_and_more(self):
        self.assertEqual([ways(W, 6, kind) for kind in range(7)], [1, 2, 1, 2, 1, 1, 1])
        self.assertEqual(ways(THREE, 8, 4), 3)
        self.assertEqual([ways(LADDER, 9, kind) for kind in range(10)],
                         [2, 3, 1, 1, 3, 2, 2, 1, 1, 1])
        self.assertEqual(ways(tower(6, 2), 24, 0), 64)

    def test_is_beneath(self):
        self.assertIs(is_beneath(W, 4, 3), True)
        self.assertIs(is_beneath(W, 6, 1), True)
        self.assertIs(is_beneath(W, 3, 4), False)
        self.assertIs(is_beneath(W, 4, 5), False)
        self.assertIs(is_beneath(W, 0, 1), False)
        # Equal rows tell nothing here: the mixing has its child beneath it, not the reverse.
        self.assertIs(is_beneath(W, 3, 1), True)
        self.assertIs(is_beneath(W, 1, 3), False)
        self.assertIs(is_beneath(ABOVE, 4, 3), True)
        self.assertIs(is_beneath(ABOVE, 3, 4), False)

    def test_is_beneath_of_a_kind_and_itself(self):
        for web in WEBS:
            for kind in range(root(web) + 1):
                self.assertIs(is_beneath(web, kind, kind), False)


class TestAllWebs(unittest.TestCase):
    """Small and drawn webs against the document's words written out plainly."""

    def setUp(self):
        self.webs = small_webs() + list(WEBS[:-1]) + drawn_webs(32, 3) + [LADDER, tower(3, 2)]

    def test_rows_and_lots(self):
        for web in self.webs:
            expected = plain_rows(web)
            self.assertEqual(all_rows(web), [expected[kind] for kind in range(len(expected))])
            self.assertEqual(lot(web), plain_lot(web))

    def test_ways(self):
        for web in self.webs:
            for kind in plain_children(web):
                ends = [way[-1] for way in plain_ways(web, kind)]
                for to in plain_children(web):
                    self.assertEqual(ways(web, kind, to), ends.count(to))
                    self.assertIs(is_beneath(web, kind, to), to in ends and kind != to)

    def test_tuples_of_integers(self):
        for web in self.webs:
            told = lot(web)
            self.assertIs(type(told), tuple)
            for item in told + tuple(all_rows(web)):
                self.assertIs(type(item), tuple)
                self.assertEqual((len(item), {type(number) for number in item}), (web[0], {int}))
            for to in range(root(web) + 1):
                self.assertIs(type(ways(web, root(web), to)), int)

    def test_webs_stay_as_they_were_and_answers_the_same(self):
        def answers(web):
            return [lot(web)] + [(row(web, kind), ways(web, root(web), kind),
                                  is_beneath(web, root(web), kind)) for kind in range(root(web) + 1)]

        kept = copy.deepcopy(self.webs)
        first = [answers(web) for web in self.webs]
        again = [answers(web) for web in self.webs[::-1]]
        self.assertEqual(first, again[::-1])
        self.assertEqual(self.webs, kept)


if __name__ == "__main__":
    unittest.main()
