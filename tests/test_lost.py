"""Lots from which a row is lost: what fills them, and rows that the others tell alone."""

import copy
import unittest
from itertools import combinations, product

from samples import (ABOVE, ANY_VALUES, BIG, BROAD, CHERRY, FLAT, FULL, LADDER, ONE, THREE, W, WEBS,
                     Draws, all_lots, changed_lots, deep, drawn_webs, numbered_otherwise, plain_lot,
                     small_webs, tower)
from wayrows.built import web_of
from wayrows.errors import NoWeb
from wayrows.forms import form
from wayrows.lost import fills, spare
from wayrows.rows import lot
from wayrows.webs import web_error

W_LOT = ((0, 0, 1), (0, 1, 0), (0, 1, 0), (0, 1, 1), (1, 0, 0), (1, 1, 0), (1, 2, 1))
TREE = (3, ((0, 1), (2, 3)))
STAR = (3, ((0, 1, 2),))
# Ten kinds and eleven.
TEN = (4, ((1,), (2,), (0, 4), (3, 5), (4, 5, 6), (7, 8)))
ELEVEN = (5, ((1,), (2,), (0, 5), (3, 6), (5, 6, 7), (4, 8, 9)))


def a(row, times=1):
    """So many equal rows, each of one digit a number."""
    return (tuple(int(sign) for sign in row),) * times


def is_lot(leaves, value):
    """Whether some web has this lot."""
    try:
        told = web_of(leaves, value)
    except NoWeb:
        return False
    return plain_lot(told) == value


def filled(leaves, value, rows):
    """Those of the rows that make value the lot of a web, in ascending order."""
    return tuple(row for row in sorted(set(rows)) if is_lot(leaves, tuple(sorted(value + (row,)))))


def plain_fills(leaves, value):
    """What fills value, tried with each leaf's row and each sum of some unlike rows of it.

    The row of any other kind is the sum of its children's rows, each of which stands in value."""
    rows = [tuple(int(at == leaf) for at in range(leaves)) for leaf in range(leaves)]
    unlike = sorted(set(value))
    for many in range(1, len(unlike) + 1):
        rows += [tuple(map(sum, zip(*some))) for some in combinations(unlike, many)]
    return filled(leaves, value, rows)


def without(value, *rows):
    """The tuple of rows without some of them, each once."""
    left = list(value)
    for row in rows:
        left.remove(row)
    return tuple(left)


def sized(webs, most=10):
    """Those of the webs that have at most so many kinds."""
    return [web for web in webs if web[0] + len(web[1]) <= most]


SMALL = sized(small_webs() + list(WEBS) + [LADDER, TEN])
# One or two kinds beside six to eight leaves.
LEAFY = [FLAT, (6, ((0, 1, 2, 3, 4, 5),)), (6, ((0, 3), (1, 2, 4, 5, 6))), (7, ((2, 6), (0, 1, 3, 4, 5, 7))),
         (8, ((0, 1, 2, 3, 4, 5, 6), (7, 8))), (8, ((5, 7), (0, 1, 2, 3, 4, 6, 8)))]
DRAWN = sized(drawn_webs(160, 41, 1, 5))


class LostTest(unittest.TestCase):
    def check(self, leaves, value):
        """NoWeb("lot", None), and the value as it was."""
        before = repr(value)
        with self.assertRaises(NoWeb) as held:
            fills(leaves, value)
        self.assertEqual((held.exception.word, held.exception.row), ("lot", None), value)
        self.assertEqual(repr(value), before)


class TestFills(LostTest):
    def test_by_hand(self):
        self.assertEqual(fills(1, ()), ((1,),))
        self.assertEqual(fills(2, a("01") + a("10")), a("11"))
        self.assertEqual(fills(3, a("001") + a("010") + a("100")), a("111"))
        self.assertEqual(fills(3, a("001") + a("010") + a("100") + a("110")), a("111"))
        self.assertEqual(fills(3, a("001") + a("010") + a("100") + a("111")), a("011") + a("101") + a("110"))

    def test_a_leafs_row(self):
        self.assertEqual(fills(2, a("01") + a("11")), a("10"))
        self.assertEqual(fills(3, without(W_LOT, (0, 0, 1))), a("001"))
        self.assertEqual(fills(1, ()), a("1"))

    def test_two_leaves_rows(self):
        for leaves in range(2, 9):
            self.assertEqual(fills(leaves, ()), ())
        self.assertEqual(fills(3, a("010") + a("111")), ())
        self.assertEqual(fills(2, a("11")), ())

    def test_the_roots_row(self):
        self.assertIn((1, 2, 1), fills(3, W_LOT[:-1]))
        value = tuple(sorted(a("0001") + a("0010") + a("0011") + a("0100") + a("1000") + a("1100")))
        self.assertEqual(fills(4, value), a("1111"))

    def test_one_of_two_equal_rows(self):
        value = without(W_LOT, (0, 1, 0))
        self.assertIn((0, 1, 0), fills(3, value))
        self.assertEqual(fills(3, value), plain_fills(3, value))
        value = without(lot(ABOVE), (1, 1, 0))
        self.assertIn((1, 1, 0), fills(3, value))

    def test_mixing_of_the_root(self):
        # A new root may have a mixing beside what has no parents yet, or not.
        value = without(lot(THREE), lot(THREE)[-1])
        self.assertEqual(fills(4, value), plain_fills(4, value))
        self.assertGreater(len(fills(4, value)), 1)

    def test_whole_lots(self):
        self.assertEqual(fills(1, a("1")), ())
        self.assertEqual(fills(2, lot(CHERRY)), ())
        self.assertEqual(fills(3, lot(TREE)), ())
        self.assertEqual(fills(3, lot(STAR)), a("011") + a("101") + a("110"))
        self.assertEqual(fills(8, lot(FLAT))[:2], a("00000011") + a("00000101"))
        # All clusters of two to seven of the eight leaves.
        self.assertEqual(len(fills(8, lot(FLAT))), 2 ** 8 - 8 - 2)
        for web in sized(SMALL, 9):
            self.assertEqual(fills(web[0], lot(web)), plain_fills(web[0], lot(web)))

    def test_rows_that_no_lot_holds(self):
        for value in (a("2"), a("1", 2), a("1", 3), a("3") * 2):
            self.assertEqual(fills(1, value), ())
        self.assertEqual(fills(2, a("01", 3) + a("10")), ())
        self.assertEqual(fills(2, a("01") + a("10") + a("77")), ())
        self.assertEqual(fills(2, ((0, 1), (1, 0), (BIG, BIG))), ())
        self.assertEqual(fills(2, ((0, BIG), (1, 0), (BIG, BIG))), ())

    def test_each_row_lost(self):
        for web in SMALL + LEAFY + DRAWN:
            value = lot(web)
            for row in sorted(set(value)):
                told = fills(web[0], without(value, row))
                self.assertIn(row, told)
                if len(set(value)) < 9:
                    self.assertEqual(told, plain_fills(web[0], without(value, row)), (web, row))

    def test_leafy_webs(self):
        for web in LEAFY[1:4]:
            for row in sorted(set(lot(web)))[-2:]:
                value = without(lot(web), row)
                self.assertEqual(fills(web[0], value), plain_fills(web[0], value))

    def test_two_rows_lost(self):
        for web in small_webs() + DRAWN[::4]:
            value = lot(web)
            for first, second in combinations(range(min(len(value), 8)), 2):
                left = without(value, value[first], value[second])
                self.assertEqual(fills(web[0], left), plain_fills(web[0], left), left)

    def test_changed_lots(self):
        for web in sized(small_webs(), 6) + DRAWN[::24]:
            for value in changed_lots(lot(web)):
                if len(value) <= 9:
                    self.assertEqual(fills(web[0], value), plain_fills(web[0], value), value)

    def test_all_small_tuples_of_rows(self):
        for leaves, most, extra in ((2, 3, 3), (3, 2, 2)):
            for value in all_lots(leaves, most, extra):
                self.assertEqual(fills(leaves, value), plain_fills(leaves, value), value)

    def test_all_rows_up_to_the_sums_of_all(self):
        values = {()} | set(all_lots(2, 3, 2))
        for web in small_webs() + drawn_webs(40, 42, 2, 2):
            if web[0] == 2:
                values |= {without(lot(web), row) for row in lot(web)}
        for value in values:
            if len(value) <= 9:
                bounds = tuple(map(sum, zip(*value))) or (2, 2)
                rows = [row for row in product(*[range(bound + 1) for bound in bounds]) if any(row)]
                self.assertEqual(fills(2, value), filled(2, value, rows), value)

    def test_answer_makes_lots_of_webs(self):
        for web in SMALL + DRAWN:
            value = lot(web)
            for row in sorted(set(value)):
                told = fills(web[0], without(value, row))
                self.assertEqual(told, tuple(sorted(set(told))))
                for other in told:
                    whole = tuple(sorted(without(value, row) + (other,)))
                    self.assertEqual(plain_lot(web_of(web[0], whole)), whole)
                    self.assertIsNone(web_error(web_of(web[0], whole)))

    def test_tuples_at_every_depth(self):
        told = fills(3, lot(STAR))
        self.assertIs(type(told), tuple)
        for row in told:
            self.assertEqual((type(row), {type(number) for number in row}), (tuple, {int}))
        self.assertEqual((type(fills(1, a("1"))), type(fills(1, ())[0])), (tuple, tuple))

    def test_the_same_call_gets_the_same_answer(self):
        values = [(web[0], lot(web)[1:]) for web in DRAWN]
        kept = copy.deepcopy(values)
        first = [fills(*value) for value in values]
        self.assertEqual([fills(*value) for value in values[::-1]], first[::-1])
        self.assertEqual(values, kept)


class TestNoWeb(LostTest):
    def test_no_tuple(self):
        for value in (list(W_LOT), dict(enumerate(W_LOT)), None, True, False, 0, "", "001", [], {}, W):
            self.check(3, value)

    def test_any_values(self):
        for value in ANY_VALUES + WEBS + (NoWeb("lot", None),):
            if value == () and isinstance(value, tuple):
                self.assertEqual(fills(3, value), ())
            else:
                self.check(3, value)
            if value != (1, 2, 3):
                self.check(3, (value,))
                self.check(3, W_LOT + (value,))

    def test_ten_rows_and_more(self):
        self.assertEqual(len(lot(TEN)), 10)
        self.check(4, lot(TEN))
        self.assertIn(lot(TEN)[0], fills(4, lot(TEN)[1:]))
        self.check(1, a("1", 10))
        self.assertEqual(fills(1, a("1", 9)), ())
        self.check(8, lot(FULL))
        self.check(2, ((0, 1),) * 2000)

    def test_rows_with_other_items(self):
        for item in (True, False, None, "1", "", (), (1,), [1], {}, -1, -BIG, deep(10)):
            for at, row in enumerate(W_LOT[1:]):
                for place in range(3):
                    changed = row[:place] + (item,) + row[place + 1:]
                    self.check(3, W_LOT[1:at + 1] + (changed,) + W_LOT[at + 2:])
        self.check(1, ((True,),))
        self.check(2, ((False, True), (1, 0)))
        self.check(2, ((0, 1), (True, 0)))

    def test_nought_and_lengths(self):
        self.check(2, a("00") + a("01") + a("10"))
        self.check(1, a("0"))
        self.check(2, ((-1, 1), (0, 1), (1, 0)))
        self.check(2, a("01") + a("1"))
        self.check(2, a("01") + a("100"))
        self.check(1, ((),))
        for leaves in (1, 2, 4, 8):
            self.check(leaves, W_LOT[1:])

    def test_lists_in_the_place_of_tuples(self):
        self.check(2, [(0, 1), (1, 0)])
        self.check(2, ([0, 1], (1, 0)))
        self.check(2, ((0, 1), [1, 0]))

    def test_rows_out_of_order(self):
        self.check(2, a("10") + a("01"))
        self.check(3, W_LOT[:0:-1])
        self.check(3, (W_LOT[-1],) + W_LOT[1:-1])


class TestSpare(unittest.TestCase):
    def test_by_hand(self):
        self.assertEqual(spare(ONE), a("1"))
        self.assertEqual(spare(CHERRY), a("01") + a("10") + a("11"))
        # Without (1, 1, 0) there would be (0, 1, 1) and (1, 0, 1) as well.
        self.assertEqual(spare(TREE), a("001") + a("010") + a("100") + a("111"))
        self.assertEqual(spare(STAR), a("001") + a("010") + a("100") + a("111"))

    def test_each_row_of_webs(self):
        for web in SMALL + LEAFY[1:4] + DRAWN:
            value = lot(web)
            expected = tuple(row for row in sorted(set(value))
                             if fills(web[0], without(value, row)) == (row,))
            self.assertEqual(spare(web), expected, web)
            self.assertIs(type(spare(web)), tuple)

    def test_a_row_that_stands_twice(self):
        # It is told once, though it may be left out at either of two places.
        self.assertEqual(lot(W).count((0, 1, 0)), 2)
        self.assertEqual(fills(3, without(W_LOT, (0, 1, 0))), a("010"))
        self.assertEqual(spare(W), a("001") + a("010") + a("100"))
        for web in SMALL + DRAWN:
            for row in spare(web):
                self.assertEqual(spare(web).count(row), 1)

    def test_against_all_fills(self):
        for web in small_webs() + [W, THREE, BROAD, LADDER]:
            value = lot(web)
            if len(value) <= 9:
                expected = tuple(row for row in sorted(set(value))
                                 if plain_fills(web[0], without(value, row)) == (row,))
                self.assertEqual(spare(web), expected)

    def test_numbered_otherwise(self):
        draws = Draws(43)
        for web in SMALL + DRAWN:
            self.assertEqual(spare(numbered_otherwise(web, draws)), spare(web))
            self.assertEqual(spare(form(web)), spare(web))

    def test_somewhat_beyond_the_bounds(self):
        for web in (ELEVEN, tower(2, 4)):
            self.assertGreater(web[0] + len(web[1]), 10)
            told = spare(web)
            self.assertLessEqual(set(told), set(lot(web)))
            for leaf in range(web[0]):
                row = tuple(int(at == leaf) for at in range(web[0]))
                if lot(web).count(row) == 1:
                    self.assertIn(row, told)


if __name__ == "__main__":
    unittest.main()
