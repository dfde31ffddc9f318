"""Webs held beside one another: matches, rows that part them, and distances."""

from wayrows.errors import OtherLeaves
from wayrows.forms import in_row_order
from wayrows.rows import lot
from wayrows.webs import root


def is_alike(one, other):
    """Whether the webs have a match."""
    check_leaves(one, other)
    return lot(one) == lot(other)


def match(one, other):
    """The match, a tuple with a kind of other for each kind of one; None if there is none."""
    if not is_alike(one, other):
        return None
    goals = [0 for _ in range(root(one) + 1)]
    for kind, goal in zip(in_row_order(one), in_row_order(other)):
        goals[kind] = goal
    return tuple(goals)


def paper(one, other):
    """("match", m) with the match, or ("row", row, a, b) with the first row that parts the webs."""
    found = match(one, other)
    if found is not None:
        return ("match", found)
    return ("row",) + parting_rows(one, other)[0]


def distance(one, other):
    """By how much the numbers of times differ that each row stands in the two lots, in all."""
    check_leaves(one, other)
    return sum([abs(times - others) for _, times, others in parting_rows(one, other)])


def nearest(one, some):
    """The place of the first of some webs with the least distance to one."""
    found = [distance(one, other) for other in some]
    return found.index(min(found))


def parting_rows(one, other):
    """The rows that stand not as often in both lots, in order, each as (row, times, others)."""
    first, second = lot(one), lot(other)
    counts = [(row, first.count(row), second.count(row)) for row in sorted(set(first + second))]
    return [told for told in counts if told[1] != told[2]]


def check_leaves(one, other):
    """Raises OtherLeaves if the webs have not equally many leaves."""
    if one[0] != other[0]:
        raise OtherLeaves()
