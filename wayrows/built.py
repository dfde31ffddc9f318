"""Lots built up to their webs, or barred."""

from wayrows.bounds import MAX_INNER
from wayrows.errors import NoWeb
from wayrows.integers import is_integers
from wayrows.rows import leaf_row


def web_of(leaves, value):
    """The form of the web whose lot value is; NoWeb if there is none."""
    found = parts(leaves, value)
    taken_by = {row: taken for row, taken in found}
    # The kind that parents of a row's kind have as their child: the mixing, if there is one.
    tops = {}
    inner = []
    for row in unlike_rows(value):
        plain = leaves + len(inner)
        if row in taken_by:
            inner.append(tuple(sorted([tops[lower] for lower in taken_by[row]])))
        else:
            plain = row.index(1)
        tops[row] = plain
        if value.count(row) == 2:
            tops[row] = leaves + len(inner)
            inner.append((plain,))
    return (leaves, tuple(inner))


def parts(leaves, value):
    """The ascending tuple of the pairs (row, taken) of rows taken apart; NoWeb as web_of."""
    if not is_in_order(leaves, value) or not 1 <= len(value) <= leaves + MAX_INNER:
        raise NoWeb("lot", None)
    check_leaf_rows(leaves, value)
    check_often(value)
    leaf_rows = [leaf_row(leaves, leaf) for leaf in range(leaves)]
    found = tuple([(row, taken_apart(row, value)) for row in unlike_rows(value)
                   if row not in leaf_rows])
    check_parents(value, found)
    check_bare(value, found)
    return found


def is_in_order(leaves, value):
    """Whether value is a tuple of rows, in order."""
    if not isinstance(value, tuple) or not all([is_row(leaves, item) for item in value]):
        return False
    return all([value[at] <= value[at + 1] for at in range(len(value) - 1)])


def is_row(leaves, value):
    """Whether value is a tuple of as many integers as leaves, none below 0, not all 0."""
    return is_integers(value, leaves) and min(value) >= 0 and max(value) > 0


def unlike_rows(value):
    """The rows of a lot in ascending order, each once."""
    return sorted(set(value))


def check_leaf_rows(leaves, value):
    """Raises NoWeb if the row of a leaf does not stand in value."""
    for leaf in range(leaves):
        if leaf_row(leaves, leaf) not in value:
            raise NoWeb("leaf", leaf_row(leaves, leaf))


def check_often(value):
    """Raises NoWeb if a row stands more than twice."""
    for row in value:
        if value.count(row) > 2:
            raise NoWeb("often", row)


def taken_apart(row, value):
    """The ascending tuple of the rows taken off a row; NoWeb if one would be taken off twice."""
    lower = [other for other in unlike_rows(value) if other != row and is_within(other, row)]
    taken = []
    left = row
    while max(left) > 0:
        greatest = max([other for other in lower if is_within(other, left)])
        if greatest in taken:
            raise NoWeb("twice", row)
        taken.append(greatest)
        left = tuple([number - off for number, off in zip(left, greatest)])
    return tuple(sorted(taken))


def is_within(low, high):
    """Whether no number of the row low is above that of high at the same place."""
    return all([number <= bound for number, bound in zip(low, high)])


def check_parents(value, found):
    """Raises NoWeb if a row is not taken by as many rows as a web's kind has parents."""
    for row in unlike_rows(value):
        takers = len([upper for upper, taken in found if row in taken])
        if not has_its_parents(row, value, takers):
            raise NoWeb("parents", row)


def has_its_parents(row, value, takers):
    """Whether so many rows that take it are right for a row of a lot."""
    many = value.count(row)
    if row == value[-1]:
        return many == 1 and takers == 0
    if many == 2:
        return takers >= 2
    return takers == 1


def check_bare(value, found):
    """Raises NoWeb if all rows taken off a row are those of mixings."""
    for row, taken in found:
        if all([value.count(lower) == 2 for lower in taken]):
            raise NoWeb("bare", row)
