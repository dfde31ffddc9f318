"""The checker: it looks through papers that tell whether webs are alike."""

from wayrows.alike import check_leaves
from wayrows.errors import NoPaper
from wayrows.integers import is_between, is_integer, is_integers
from wayrows.rows import lot
from wayrows.webs import children, root


def is_paper(one, other, value):
    """True if value is a match of the webs, or a row that parts them; otherwise NoPaper."""
    check_leaves(one, other)
    if is_told_match(value):
        check_match(one, other, value[1])
    elif is_told_row(value):
        check_row(one, other, value)
    else:
        raise NoPaper("shape", -1)
    return True


def is_told_match(value):
    """Whether value is a tuple ("match", m) with a tuple m."""
    if not isinstance(value, tuple) or len(value) != 2:
        return False
    return value[0] == "match" and isinstance(value[1], tuple)


def is_told_row(value):
    """Whether value is a tuple of four items that begins with "row"."""
    return isinstance(value, tuple) and len(value) == 4 and value[0] == "row"


def check_match(one, other, goals):
    """Raises NoPaper with the first fault by which goals is no match."""
    if len(goals) != root(one) + 1 or root(other) != root(one):
        raise NoPaper("size", -1)
    for kind, goal in enumerate(goals):
        # The goals ahead were found to be kinds, so none of them is True or False.
        if not is_between(goal, 0, root(other)) or goal in goals[:kind]:
            raise NoPaper("kind", kind)
    for leaf in range(one[0]):
        if goals[leaf] != leaf:
            raise NoPaper("leaf", leaf)
    for kind, goal in enumerate(goals):
        if sorted([goals[child] for child in children(one, kind)]) != list(children(other, goal)):
            raise NoPaper("link", kind)


def check_row(one, other, value):
    """Raises NoPaper with the first fault by which value tells no row that parts the webs."""
    row, times, others = value[1:]
    if not is_integers(row, one[0]):
        raise NoPaper("row", -1)
    if not is_integer(times) or not is_integer(others) or times == others:
        raise NoPaper("count", -1)
    if times != lot(one).count(row) or others != lot(other).count(row):
        raise NoPaper("count", -1)
