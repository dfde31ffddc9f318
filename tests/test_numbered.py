"""Ways by their numbers."""

import copy
import unittest

from samples import (ABOVE, ANY_VALUES, BIG, CHERRY, FLAT, FULL, LADDER, ONE, OVERFULL, THREE, W,
                     WEBS, deep, drawn_webs, plain_children, plain_ways, small_webs, tower)
from wayrows.errors import NoWay
from wayrows.numbered import place_of, way_at
from wayrows.rows import lot, ways
from wayrows.webs import road, root

NO_NUMBERS = (-1, True, False, None, BIG, -BIG, "0", "", (), (0,), ((6, 4, 0),), [0], [], {}, {0: 0},
              deep(12), deep(12, list), 10 ** 40 - 1)


class NumberedTest(unittest.TestCase):
    def check_no_way(self, function, *arguments):
        """NoWay with the last argument itself, which stays as it was."""
        value = arguments[-1]
        before = copy.deepcopy(value)
        with self.assertRaises(NoWay) as held:
            function(*arguments)
        self.assertIs(held.exception.value, value)
        self.assertEqual(repr(value), repr(before))


class TestWayAt(NumberedTest):
    def test_ways_of_w(self):
        self.assertEqual([way_at(W, 6, 1, number) for number in range(2)],
                         [(6, 4, 3, 1), (6, 5, 3, 1)])
        self.assertEqual(way_at(W, 6, 0, 0), (6, 4, 0))
        self.assertEqual(way_at(W, 6, 5, 0), (6, 5))
        self.assertEqual([way_at(W, 6, 3, number) for number in range(2)], [(6, 4, 3), (6, 5, 3)])

    def test_ways_of_a_ladder(self):
        self.assertEqual([way_at(LADDER, 9, 1, number) for number in range(3)],
                         [(9, 7, 6, 5, 4, 1), (9, 8, 4, 1), (9, 8, 6, 5, 4, 1)])
        self.assertEqual([way_at(LADDER, 8, 1, number) for number in range(2)],
                         [(8, 4, 1), (8, 6, 5, 4, 1)])

    def test_a_kind_to_itself(self):
        for web in WEBS:
            for kind in range(root(web) + 1):
                self.assertEqual(way_at(web, kind, kind, 0), (kind,))
                self.check_no_way(way_at, web, kind, kind, 1)

    def test_first_and_last_and_one_beyond(self):
        web = tower(4, 4)
        self.assertEqual(ways(web, 24, 0), 256)
        self.assertEqual(way_at(web, 24, 0, 0), (24, 20, 19, 15, 14, 10, 9, 5, 0))
        self.assertEqual(way_at(web, 24, 0, 1), (24, 20, 19, 15, 14, 10, 9, 8, 5, 0))
        # The last way always goes by the greater child, so by all kinds but leaves.
        self.assertEqual(way_at(web, 24, 0, 255), tuple(range(24, 4, -1)) + (0,))
        self.check_no_way(way_at, web, 24, 0, 256)
        self.check_no_way(way_at, W, 6, 1, 2)
        self.check_no_way(way_at, THREE, 8, 0, 3)

    def test_no_numbers(self):
        for value in NO_NUMBERS:
            self.check_no_way(way_at, W, 6, 1, value)
            self.check_no_way(way_at, ONE, 0, 0, value)
            self.check_no_way(way_at, tower(4, 4), 24, 0, value)

    def test_any_value(self):
        for value in ANY_VALUES + tuple(WEBS) + (lot(W), way_at(W, 6, 1, 0), NoWay(0)):
            if type(value) is not int or value not in (0, 1):
                self.check_no_way(way_at, W, 6, 1, value)

    def test_true_and_false_where_zero_and_one_are_numbers(self):
        self.assertEqual([way_at(W, 6, 3, value) for value in (0, 1)], [(6, 4, 3), (6, 5, 3)])
        self.check_no_way(way_at, W, 6, 3, False)
        self.check_no_way(way_at, W, 6, 3, True)

    def test_no_way_leads(self):
        for kind, to in ((3, 6), (4, 5), (5, 4), (0, 1), (4, 2), (1, 3)):
            for value in (0, 1, -1, None):
                self.check_no_way(way_at, W, kind, to, value)


class TestPlaceOf(NumberedTest):
    def test_ways_of_w(self):
        self.assertEqual(place_of(W, (6, 4, 3, 1)), 0)
        self.assertEqual(place_of(W, (6, 5, 3, 1)), 1)
        self.assertEqual(place_of(W, (6, 5, 2)), 0)
        self.assertEqual(place_of(W, (5, 3, 1)), 0)

    def test_a_kind_by_itself(self):
        for web in WEBS:
            for kind in range(root(web) + 1):
                self.assertEqual(place_of(web, (kind,)), 0)

    def test_no_tuple(self):
        for value in ([6, 4, 0], [0], {6: 4}, {}, "640", "", None, True, False, 0, 6, BIG, [],
                      [(6, 4, 0)]):
            self.check_no_way(place_of, W, value)

    def test_empty_tuple(self):
        for web in WEBS:
            self.check_no_way(place_of, web, ())

    def test_kinds_that_are_none(self):
        for value in ((7,), (-1,), (6, 4, -1), (7, 6, 4), (6, 4, BIG), (BIG,), (-BIG,), (6, 4, None),
                      (None,), ("6", "4"), (6, "4", 0), ((6, 4, 0),), (6, (4,), 0), (6, [4], 0),
                      (6, {}, 0), ((6,), (4,), (0,))):
            self.check_no_way(place_of, W, value)
        self.check_no_way(place_of, ONE, (1,))

    def test_true_and_false_in_the_place_of_a_kind(self):
        for value in ((True,), (False,), (6, 4, False), (6, 4, 3, True), (4, False)):
            self.check_no_way(place_of, W, value)
        # Kinds 1 and 0 are a parent and its child in no web; 2 and its children are in this one.
        self.check_no_way(place_of, CHERRY, (2, True))
        self.check_no_way(place_of, CHERRY, (2, False))
        self.check_no_way(place_of, ONE, (False,))

    def test_kinds_left_out_doubled_or_turned_about(self):
        for value in ((6, 3, 1), (6, 1), (6, 4, 1), (6, 6, 4, 0), (6, 4, 0, 0), (6, 4, 4, 0), (6, 6),
                      (0, 4, 6), (1, 3), (6, 0, 4), (4, 6, 0), (0, 0), (6, 5, 4, 0), (3, 4)):
            self.check_no_way(place_of, W, value)

    def test_lists_inside_and_outside(self):
        for web in WEBS:
            way = road(web, root(web))
            self.check_no_way(place_of, web, list(way))
            self.check_no_way(place_of, web, (list(way),))
            self.check_no_way(place_of, web, (way,))
            self.check_no_way(place_of, web, tuple([kind] for kind in way))

    def test_any_value(self):
        for value in ANY_VALUES + tuple(WEBS) + (lot(W), NoWay((6, 4, 0))):
            if value not in [(0,), (1,)]:
                self.check_no_way(place_of, W, value)

    def test_long_values(self):
        self.check_no_way(place_of, W, tuple(range(6, -1, -1)))
        self.check_no_way(place_of, W, (6, 4, 3, 1) * 400)
        self.check_no_way(place_of, FULL, tuple(range(27, -1, -1)))

    def test_each_way_with_a_kind_changed(self):
        web = LADDER
        kinds = range(root(web) + 1)
        told = {way for kind in kinds for way in plain_ways(web, kind)}
        for way in told:
            for at in range(len(way)):
                for put in [()] + [(kind,) for kind in range(-1, root(web) + 2)] + [(way[at],) * 2]:
                    value = way[:at] + put + way[at + 1:]
                    if value in told:
                        ends = [other for other in plain_ways(web, value[0])
                                if other[-1] == value[-1]]
                        self.assertEqual(place_of(web, value), sorted(ends).index(value))
                    else:
                        self.check_no_way(place_of, web, value)


class TestThereAndBack(NumberedTest):
    def check_all(self, web):
        for kind in plain_children(web):
            found = plain_ways(web, kind)
            for to in plain_children(web):
                expected = sorted(way for way in found if way[-1] == to)
                told = [way_at(web, kind, to, number) for number in range(ways(web, kind, to))]
                self.assertEqual(told, expected)
                self.assertEqual({type(way) for way in told} - {tuple}, set())
                self.assertEqual([place_of(web, way) for way in told], list(range(len(told))))
                for value in (len(told), -1, None, len(told) + 7):
                    self.check_no_way(way_at, web, kind, to, value)

    def test_small_webs(self):
        for web in small_webs() + [W, ABOVE, THREE, LADDER, FLAT, tower(3, 2)]:
            self.check_all(web)

    def test_drawn_webs(self):
        for web in drawn_webs(16, 4):
            self.check_all(web)

    def test_a_tower(self):
        web = tower(4, 4)
        told = [way_at(web, 24, 0, number) for number in range(256)]
        self.assertEqual(told, sorted(way for way in plain_ways(web, 24) if way[-1] == 0))
        self.assertEqual([place_of(web, way) for way in told], list(range(256)))

    def test_somewhat_beyond_the_bounds(self):
        self.assertEqual(place_of(OVERFULL, way_at(OVERFULL, 28, 7, 1)), 1)

    def test_webs_stay_as_they_were_and_answers_the_same(self):
        webs = drawn_webs(8, 6)
        kept = copy.deepcopy(webs)

        def answers(web):
            told = [way_at(web, root(web), leaf, 0) for leaf in range(web[0])]
            return told + [place_of(web, way) for way in told]

        first = [answers(web) for web in webs]
        again = [answers(web) for web in webs[::-1]]
        self.assertEqual(first, again[::-1])
        self.assertEqual(webs, kept)


if __name__ == "__main__":
    unittest.main()
