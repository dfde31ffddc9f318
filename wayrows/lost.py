"""Lots from which a row is lost, and the rows that complete them."""

from wayrows.bounds import MAX_FILLED
from wayrows.built import is_in_order, is_within, parts, taken_apart, unlike_rows
from wayrows.errors import NoWeb
from wayrows.rows import leaf_row, lot


def fills(leaves, value):
    """The ascending tuple of all rows with which value is a lot; NoWeb if it is no tuple of rows."""
    if not is_in_order(leaves, value) or len(value) > MAX_FILLED:
        raise NoWeb("lot", None)
    return filling_rows(leaves, value)


def spare(web):
    """The ascending tuple of the rows without one of which the rest of the lot tells it alone."""
    told = lot(web)
    return tuple([row for row in unlike_rows(told)
                  if filling_rows(web[0], without_one(told, row)) == (row,)])


def without_one(value, row):
    """The tuple of rows without one of those that are equal to row."""
    at = value.index(row)
    return value[:at] + value[at + 1:]


def filling_rows(leaves, value):
    """The ascending tuple of all rows with which a tuple of rows, in order, is a lot."""
    found = unlike_rows(possible_rows(leaves, value))
    return tuple([row for row in found if is_lot(leaves, tuple(sorted(value + (row,))))])


def is_lot(leaves, value):
    """Whether a tuple of rows, in order, is the lot of a web."""
    try:
        parts(leaves, value)
    except NoWeb:
        return False
    return True


def possible_rows(leaves, value):
    """A list that has all rows with which value may be a lot."""
    lacking = [leaf_row(leaves, leaf) for leaf in range(leaves)
               if leaf_row(leaves, leaf) not in value]
    if len(lacking) > 0:
        return lacking[:1]
    taken = {row: taken_off(row, value) for row in unlike_rows(value) if sum(row) > 1}
    spoiled = [row for row in taken if taken[row] is None]
    found = []
    # A new row is taken off its only parent's row at most: all others are taken apart as before.
    for parent in taken:
        if len([row for row in spoiled if row != parent]) == 0:
            found = found + rows_beneath(parent, value, taken)
    if len(spoiled) == 0:
        found = found + rows_on_top(value, taken) + rows_doubled(value, taken)
    return found


def taken_off(row, value):
    """The tuple of the rows taken off a row of value; None if one would be taken off twice."""
    try:
        return taken_apart(row, value)
    except NoWeb:
        return None


def takers(row, taken):
    """How many of the rows that are taken apart take the row."""
    return len([upper for upper in taken if row in taken[upper]])


def rows_beneath(parent, value, taken):
    """A list of the rows that may be those of a new kind beneath the one with the row parent."""
    others = {row: taken[row] for row in taken if row != parent}
    # What stands once has one parent alone, so it is no child if another row takes it.
    lower = [row for row in unlike_rows(value) if row != parent and is_within(row, parent)
             and (value.count(row) > 1 or takers(row, others) == 0)]
    sums = [(0,) * len(parent)]
    for row in lower:
        sums = sums + [both for both in plus_each(row, sums) if is_within(both, parent)]
    return [row for row in sums[1:] if row not in value]


def rows_on_top(value, taken):
    """A list of the rows that may be those of a new root."""
    lower = [row for row in unlike_rows(value) if takers(row, taken) < value.count(row)]
    sums = [total(lower)]
    for row in unlike_rows(value):
        if value.count(row) > 1 and row not in lower:
            sums = sums + plus_each(row, sums)
    return [row for row in sums if row not in value]


def rows_doubled(value, taken):
    """A list of the rows that may be those of a new mixing."""
    return [row for row in unlike_rows(value) if value.count(row) == 1 and takers(row, taken) > 1]


def plus_each(row, sums):
    """A list of the sums of a row and each of several."""
    return [total([row, other]) for other in sums]


def total(rows):
    """The sum of one or more rows."""
    return tuple([sum(column) for column in zip(*rows)])
