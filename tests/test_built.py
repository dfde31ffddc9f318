"""Lots built up: each word of NoWeb by itself and ahead of the later ones, with its row."""

import copy
import unittest

from samples import (ABOVE, ANY_VALUES, BIG, BROAD, CHERRY, FLAT, FULL, LADDER, ONE, OVERFULL,
                     THREE, W, WEBS, all_lots, all_values, changed_lots, deep, drawn_webs,
                     plain_children, plain_lot, plain_parents, plain_rows, small_webs, tower)
from wayrows.built import parts, web_of
from wayrows.errors import NoWeb
from wayrows.forms import form
from wayrows.rows import lot
from wayrows.webs import web_error

W_LOT = ((0, 0, 1), (0, 1, 0), (0, 1, 0), (0, 1, 1), (1, 0, 0), (1, 1, 0), (1, 2, 1))
# The mixings of leaves 1 and 2 have one parent in common that has no other child.
BARE_LOT = ((0, 0, 0, 1), (0, 0, 1, 0), (0, 0, 1, 0), (0, 0, 1, 1), (0, 1, 0, 0), (0, 1, 0, 0),
            (0, 1, 1, 0), (1, 0, 0, 0), (1, 1, 0, 0), (1, 2, 2, 1))
WORDS = ("leaf", "often", "twice", "parents", "bare")


def a(row, times=1):
    """So many equal rows, each of one digit a number."""
    return (tuple(int(sign) for sign in row),) * times


def chain_lot(many):
    """The lot of the web of two leaves with a mixing above leaf 1 and so many inner kinds."""
    return a("01", 2) + a("10") + tuple((1, number) for number in range(1, many))


def plain_taken(value):
    """A dict from each row that is no leaf's to the list of rows taken off it, at most two alike."""
    told = {}
    for row in sorted({row for row in value if sum(row) > 1}):
        left, told[row] = row, []
        for other in sorted(set(value) - {row}, reverse=True):
            below = all(low <= high for low, high in zip(other, row))
            while below and told[row].count(other) < 2 and all(
                    low <= high for low, high in zip(other, left)):
                told[row].append(other)
                left = tuple(high - low for low, high in zip(other, left))
    return told


def plain_faults(leaves, value):
    """The rows with each fault, in the order in which they are told, for rows in order."""
    units = [tuple(int(at == leaf) for at in range(leaves)) for leaf in range(leaves)]
    told = plain_taken(value)
    unlike = sorted(set(value))
    takers = {row: sum(row in taken for taken in told.values()) for row in unlike}
    once = [row for row in unlike if value.count(row) == 1]
    twice = [row for row in unlike if value.count(row) == 2]
    placed = [row for row in unlike[:-1] if (row in once and takers[row] == 1)
              or (row in twice and takers[row] >= 2)]
    placed += [row for row in unlike[-1:] if row in once and takers[row] == 0]
    return {
        "leaf": [row for row in units if row not in value],
        "often": [row for row in unlike if row not in once + twice],
        "twice": [row for row in told if len(set(told[row])) < len(told[row])],
        "parents": [row for row in unlike if row not in placed],
        "bare": [row for row in told if set(told[row]) <= set(twice)],
    }


class BuiltTest(unittest.TestCase):
    def check(self, leaves, value, word, row):
        """Both functions raise NoWeb with this word and row."""
        before = copy.deepcopy(value)
        for function in (web_of, parts):
            with self.assertRaises(NoWeb) as held:
                function(leaves, value)
            told = (held.exception.word, held.exception.row)
            self.assertEqual(told, (word, row), value)
            self.assertIs(type(told[1]), type(row))
            self.assertEqual(repr(value), repr(before))

    def check_all(self, leaves, value):
        """The first fault by the document's words; a lot and web_of's web otherwise."""
        first = [(word, rows[0]) for word, rows in plain_faults(leaves, value).items() if rows]
        if first:
            self.check(leaves, value, *first[0])
        else:
            told = web_of(leaves, value)
            self.assertIsNone(web_error(told))
            self.assertEqual((form(told), plain_lot(told)), (told, value))
        return first


class TestWebOf(BuiltTest):
    def test_document(self):
        self.assertEqual([web_of(3, lot(W)) == (3, ((1,), (2, 3), (0, 3), (4, 5))),
                          parts(3, lot(W))[2]], [True, ((1, 2, 1), ((0, 1, 1), (1, 1, 0)))])

    def test_by_hand(self):
        self.assertEqual(web_of(3, W_LOT), (3, ((1,), (2, 3), (0, 3), (4, 5))))
        self.assertEqual(web_of(1, ((1,),)), ONE)
        self.assertEqual(web_of(2, ((0, 1), (1, 0), (1, 1))), CHERRY)
        self.assertEqual(web_of(3, a("001") + a("010") + a("100") + a("111")), (3, ((0, 1, 2),)))
        self.assertEqual(web_of(2, chain_lot(4)), (2, ((1,), (0, 2), (2, 3), (2, 4))))

    def test_mixings_above_other_kinds(self):
        value = a("001") + a("010") + a("100") + a("110", 2) + a("111") + a("221")
        self.assertEqual(web_of(3, value), (3, ((0, 1), (3,), (2, 4), (4, 5))))

    def test_lots_are_built_up_to_their_form(self):
        for web in small_webs() + list(WEBS) + [LADDER, tower(4, 4), tower(6, 2), tower(1, 19)]:
            self.assertEqual(web_of(web[0], lot(web)), form(web))
        for web in drawn_webs(80, 30):
            self.assertEqual(web_of(web[0], plain_lot(web)), form(web))

    def test_tuples_at_every_depth(self):
        told = web_of(3, W_LOT)
        self.assertEqual((type(told), type(told[0]), type(told[1])), (tuple, int, tuple))
        for item in told[1]:
            self.assertEqual((type(item), {type(kind) for kind in item}), (tuple, {int}))

    def test_the_same_call_gets_the_same_answer(self):
        values = [(web[0], lot(web)) for web in drawn_webs(16, 31)]
        kept = copy.deepcopy(values)
        first = [(web_of(*value), parts(*value)) for value in values]
        self.check(4, BARE_LOT, "bare", (0, 1, 1, 0))
        again = [(web_of(*value), parts(*value)) for value in values[::-1]]
        self.assertEqual(first, again[::-1])
        self.assertEqual(values, kept)

    def test_somewhat_beyond_the_bounds(self):
        nine = (9, ((0, 1, 2, 3, 4, 5, 6, 7, 8),))
        self.assertEqual(web_of(9, lot(nine)), nine)


class TestParts(BuiltTest):
    def test_by_hand(self):
        self.assertEqual(parts(3, W_LOT), (((0, 1, 1), ((0, 0, 1), (0, 1, 0))),
                                           ((1, 1, 0), ((0, 1, 0), (1, 0, 0))),
                                           ((1, 2, 1), ((0, 1, 1), (1, 1, 0)))))
        self.assertEqual(parts(1, ((1,),)), ())
        self.assertEqual(parts(2, ((0, 1), (1, 0), (1, 1))), (((1, 1), ((0, 1), (1, 0))),))
        self.assertEqual(parts(3, a("001") + a("010") + a("100") + a("110", 2) + a("111") + a("221")),
                         (((1, 1, 0), ((0, 1, 0), (1, 0, 0))), ((1, 1, 1), ((0, 0, 1), (1, 1, 0))),
                          ((2, 2, 1), ((1, 1, 0), (1, 1, 1)))))

    def test_the_greatest_row_within_what_is_left_is_taken(self):
        # Off (1, 2, 2, 1): first (1, 1, 0, 0), then (0, 1, 1, 0) and not (0, 1, 0, 0).
        self.check(4, BARE_LOT, "bare", (0, 1, 1, 0))
        told = plain_taken(BARE_LOT)
        self.assertEqual(told[(1, 2, 2, 1)], [(1, 1, 0, 0), (0, 1, 1, 0), (0, 0, 1, 1)])

    def test_rows_of_the_children(self):
        for web in small_webs() + list(WEBS[:-1]) + drawn_webs(40, 32) + [LADDER]:
            rows, above, below = plain_rows(web), plain_parents(web), plain_children(web)
            expected = [(rows[kind], tuple(sorted(rows[child] for child in below[kind])))
                        for kind in rows if below[kind] and len(above[kind]) < 2]
            self.assertEqual(parts(web[0], lot(web)), tuple(sorted(expected)))

    def test_tuples_at_every_depth(self):
        told = parts(3, W_LOT)
        self.assertIs(type(told), tuple)
        for pair in told:
            self.assertEqual((type(pair), len(pair), type(pair[1])), (tuple, 2, tuple))
            for row in pair[1] + (pair[0],):
                self.assertEqual((type(row), {type(number) for number in row}), (tuple, {int}))


class TestLot(BuiltTest):
    def test_no_tuple(self):
        for value in (list(W_LOT), dict(enumerate(W_LOT)), None, True, False, 0, 7, BIG, "", "001",
                      [], {}, deep(12, list), W):
            self.check(3, value, "lot", None)

    def test_no_row(self):
        for leaves in range(1, 9):
            self.check(leaves, (), "lot", None)

    def test_items_that_are_no_rows(self):
        for item in (None, True, 0, 10, "010", "", [0, 1, 0], {0: 0, 1: 1, 2: 0}, (), (0, 1), (1,),
                     (0, 1, 0, 0), (0, 1, 0) * 2, ((0, 1, 0),), [], {}, deep(11), deep(11, list)):
            self.check(3, (item,), "lot", None)
            self.check(3, W_LOT + (item,), "lot", None)
            self.check(3, (item,) + W_LOT, "lot", None)

    def test_rows_with_other_items(self):
        for item in (True, False, None, "1", "", (), (1,), [1], {}, -1, -BIG, deep(10)):
            for at, row in enumerate(W_LOT):
                for place in range(3):
                    changed = row[:place] + (item,) + row[place + 1:]
                    self.check(3, W_LOT[:at] + (changed,) + W_LOT[at + 1:], "lot", None)

    def test_true_and_false(self):
        self.check(1, ((True,),), "lot", None)
        self.check(2, ((False, True), (1, 0), (1, 1)), "lot", None)
        self.check(2, ((0, 1), (True, 0), (1, 1)), "lot", None)
        self.check(2, ((0, 1), (1, False), (1, 1)), "lot", None)
        self.check(2, ((0, 1), (1, 0), (1, True)), "lot", None)

    def test_numbers_below_nought_and_all_nought(self):
        self.check(2, ((-1, 1), (0, 1), (1, 0), (1, 1)), "lot", None)
        self.check(2, ((0, 0), (0, 1), (1, 0), (1, 1)), "lot", None)
        self.check(1, ((0,), (1,)), "lot", None)
        self.check(1, ((0,),), "lot", None)
        self.check(3, ((0, 0, 0),), "lot", None)
        self.check(2, ((0, 1), (1, -1), (1, 0), (1, 1)), "lot", None)
        self.check(2, ((-1, -1),), "lot", None)

    def test_rows_of_other_lengths(self):
        for leaves in (1, 2, 4, 5, 8):
            self.check(leaves, W_LOT, "lot", None)
        self.check(2, ((0, 1), (1,), (1, 0), (1, 1)), "lot", None)

    def test_rows_out_of_order(self):
        self.check(2, ((1, 0), (0, 1), (1, 1)), "lot", None)
        self.check(2, ((0, 1), (1, 1), (1, 0)), "lot", None)
        self.check(3, W_LOT[::-1], "lot", None)
        for at in range(6):
            turned = W_LOT[:at] + (W_LOT[at + 1], W_LOT[at]) + W_LOT[at + 2:]
            if turned != W_LOT:
                self.check(3, turned, "lot", None)

    def test_too_many_rows(self):
        self.assertEqual(web_of(2, chain_lot(20)), (2, ((1,), (0, 2)) + tuple(
            (2, kind) for kind in range(3, 21))))
        self.check(2, chain_lot(21), "lot", None)
        self.check(1, ((1,),) * 21, "often", (1,))
        self.check(1, ((1,),) * 22, "lot", None)
        self.assertEqual(web_of(8, lot(FULL)), form(FULL))
        self.check(8, lot(OVERFULL), "lot", None)
        self.check(1, ((1,),) * 2000, "lot", None)

    def test_ahead_of_the_later_ones(self):
        self.check(2, ((1, 1), (0, 1)), "lot", None)
        self.check(2, ((0, 1), (0, 1), (0, 1), (1,)), "lot", None)
        self.check(2, ((0, 1), (1, 0), (1, 2), (1, 1)), "lot", None)
        self.check(2, ((1, 0), (0, 1)), "lot", None)
        self.check(4, BARE_LOT[::-1], "lot", None)


class TestWords(BuiltTest):
    def test_leaf(self):
        self.check(1, ((2,),), "leaf", (1,))
        self.check(2, ((1, 0), (1, 1)), "leaf", (0, 1))
        self.check(2, ((0, 1), (1, 1)), "leaf", (1, 0))
        self.check(3, W_LOT[:4] + W_LOT[5:], "leaf", (1, 0, 0))
        self.check(3, W_LOT[1:], "leaf", (0, 0, 1))

    def test_first_leaf_by_its_number(self):
        self.check(2, ((1, 1),), "leaf", (1, 0))
        self.check(3, ((1, 0, 0),), "leaf", (0, 1, 0))
        self.check(8, ((1,) * 8,), "leaf", (1, 0, 0, 0, 0, 0, 0, 0))

    def test_leaf_ahead_of_the_later_ones(self):
        self.check(2, a("01", 3) + a("11"), "leaf", (1, 0))
        self.check(2, a("10") + a("20"), "leaf", (0, 1))
        self.check(2, a("01", 2), "leaf", (1, 0))
        self.check(4, BARE_LOT[1:], "leaf", (0, 0, 0, 1))
        self.check(4, a("0001", 3) + BARE_LOT[1:4], "leaf", (1, 0, 0, 0))

    def test_often(self):
        self.check(2, a("01", 3) + a("10") + a("11") + a("12"), "often", (0, 1))
        self.check(3, W_LOT[:2] + W_LOT[1:], "often", (0, 1, 0))
        self.check(3, W_LOT + W_LOT[-1:] * 2, "often", (1, 2, 1))
        self.check(2, a("01") + a("10", 4) + a("11"), "often", (1, 0))
        self.check(2, a("01", 2) + a("10", 3) + a("11", 3), "often", (1, 0))

    def test_often_ahead_of_the_later_ones(self):
        self.check(1, a("1", 3) + a("2"), "often", (1,))
        self.check(2, a("01", 3) + a("02") + a("10") + a("13"), "often", (0, 1))
        # The fault of (2, 0) is an earlier row's than the one of (3, 3), but a later word's.
        self.check(2, a("01") + a("10") + a("20") + a("33", 3), "often", (3, 3))
        self.check(2, a("01") + a("10", 3), "often", (1, 0))
        self.check(2, a("01", 2) + a("10", 2) + a("11", 3), "often", (1, 1))

    def test_twice(self):
        self.check(1, a("1") + a("2"), "twice", (2,))
        self.check(2, a("01") + a("10") + a("12"), "twice", (1, 2))
        self.check(2, a("01") + a("10") + a("11") + a("22"), "twice", (2, 2))
        # Off (2, 1, 1): (1, 1, 0), (1, 0, 0), (0, 0, 1), none of them twice.
        self.check(3, a("001") + a("010") + a("100") + a("110") + a("211"), "parents", (1, 0, 0))

    def test_first_row_taken_apart_with_a_row_twice(self):
        self.check(2, a("01") + a("10") + a("12") + a("21"), "twice", (1, 2))
        self.check(1, a("1") + a("2") + a("5") + a("9"), "twice", (2,))

    def test_long_numbers(self):
        self.check(1, ((1,), (BIG,)), "twice", (BIG,))
        self.check(2, ((0, 1), (1, 0), (1, BIG), (BIG, 2)), "twice", (1, BIG))

    def test_twice_ahead_of_the_later_ones(self):
        self.check(1, a("1") + a("2", 2), "twice", (2,))
        self.check(1, a("1", 2) + a("2") + a("3"), "twice", (2,))
        self.check(2, a("01", 2) + a("02") + a("10"), "twice", (0, 2))
        # (0, 1, 0) is taken by none, and is an earlier row.
        self.check(3, a("001") + a("010") + a("100") + a("200") + a("301"), "twice", (2, 0, 0))

    def test_parents_of_rows_that_stand_once(self):
        # Taken by none, which is not the last row; and by two rows.
        self.check(2, a("01") + a("10"), "parents", (0, 1))
        self.check(3, W_LOT[:1] + W_LOT[2:], "parents", (0, 1, 0))
        self.check(3, a("001") + a("010") + a("100") + a("110"), "parents", (0, 0, 1))

    def test_parents_of_rows_that_stand_twice(self):
        # Taken by one row alone, and by none.
        self.check(2, a("01", 2) + a("10") + a("11"), "parents", (0, 1))
        self.check(3, a("001") + a("010") + a("100") + a("110", 2) + a("111"), "parents", (1, 1, 0))
        self.check(3, a("001", 2) + a("010") + a("100") + a("110"), "parents", (0, 0, 1))

    def test_last_row_stands_once(self):
        self.check(1, a("1", 2), "parents", (1,))
        self.check(2, a("01") + a("10") + a("11", 2), "parents", (1, 1))
        self.check(3, W_LOT + W_LOT[-1:], "parents", (1, 2, 1))
        self.assertEqual(web_of(1, a("1")), ONE)

    def test_first_of_several_rows(self):
        self.check(3, a("001") + a("010") + a("100"), "parents", (0, 0, 1))
        self.check(2, a("01") + a("10", 2) + a("11", 2), "parents", (1, 0))

    def test_parents_ahead_of_bare(self):
        self.check(2, a("01", 2) + a("10", 2) + a("11"), "parents", (0, 1))
        # (0, 1, 1, 0) is bare, and the last row stands twice.
        self.check(4, BARE_LOT + BARE_LOT[-1:], "parents", (1, 2, 2, 1))

    def test_bare(self):
        self.check(4, BARE_LOT, "bare", (0, 1, 1, 0))

    def test_first_of_two_bare_rows(self):
        value = (a("00001") + a("00010", 2) + a("00011") + a("00100", 2) + a("00110")
                 + a("01000", 2) + a("01100") + a("10000") + a("11000") + a("12221"))
        self.check(5, value, "bare", (0, 0, 1, 1, 0))


class TestAgainstTheWords(BuiltTest):
    """Small and changed lots against the document's words written out otherwise."""

    def test_small_values(self):
        pairs = set()
        for leaves, most, extra in ((1, 4, 4), (2, 3, 4), (3, 2, 3)):
            for value in all_lots(leaves, most, extra):
                words = [word for word, _ in self.check_all(leaves, value)]
                pairs.update((words[0], word) for word in words[1:])
        self.assertEqual(pairs, {(first, word) for at, first in enumerate(WORDS[1:], 2)
                                 for word in WORDS[at:]})

    def test_changed_lots(self):
        told = set()
        for web in [W, ABOVE, THREE, BROAD, LADDER, FLAT, tower(2, 3)] + drawn_webs(24, 33):
            for value in changed_lots(lot(web)):
                if value:
                    told.update(word for word, _ in self.check_all(web[0], value)[:1])
        self.assertEqual(told, set(WORDS))
        for value in changed_lots(BARE_LOT):
            self.check_all(4, value)

    def test_what_is_barred_is_no_lot(self):
        for leaves, most, extra in ((2, 4, 4), (3, 3, 3)):
            webs = [value for many in range(extra + 1) for value in all_values(leaves, many)
                    if web_error(value) is None]
            lots = {lot(web): form(web) for web in webs}
            built = {}
            for value in all_lots(leaves, most, extra):
                try:
                    built[value] = web_of(leaves, value)
                except NoWeb:
                    self.assertNotIn(value, lots)
            self.assertEqual(built, lots)


class TestAnyValue(BuiltTest):
    def test_by_itself_and_as_a_row(self):
        for value in ANY_VALUES + WEBS + (NoWeb("lot", None), parts(3, W_LOT), web_of(3, W_LOT)):
            self.check(3, value, "lot", None)
            if value != (1, 2, 3):
                self.check(3, (value,), "lot", None)
                self.check(3, W_LOT + (value,), "lot", None)
            else:
                self.check(3, (value,), "leaf", (1, 0, 0))

    def test_two_thousand_rows(self):
        self.check(2, ((0, 1),) * 2000, "lot", None)
        self.check(2, tuple((1, number) for number in range(1999)), "lot", None)

    def test_by_name(self):
        self.assertEqual(web_of(value=W_LOT, leaves=3), form(W))


if __name__ == "__main__":
    unittest.main()
