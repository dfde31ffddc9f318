"""Holders: kinds that no way from the root to a leaf goes round."""

from wayrows.integers import lowest_terms
from wayrows.rows import row, ways
from wayrows.webs import children, root


def holders(web, leaf):
    """The ascending tuple of the kinds that stand on all ways from the root to the leaf."""
    return tuple(holders_of_all(web, (leaf,)))


def kept(web, kind):
    """The ascending tuple of the leaves to which no way from the root goes round the kind."""
    leading = ways(web, root(web), kind)
    onward, whole = row(web, kind), row(web, root(web))
    return tuple([leaf for leaf in range(web[0]) if leading * onward[leaf] == whole[leaf]])


def meeting(web, some):
    """The least kind that stands on all ways from the root to each of some leaves."""
    return holders_of_all(web, some)[0]


def fraction(web, kind, leaf):
    """The part of all ways from the root to the leaf that go by the kind, in lowest terms."""
    by_kind = ways(web, root(web), kind) * ways(web, kind, leaf)
    return lowest_terms(by_kind, ways(web, root(web), leaf))


def holders_of_all(web, some):
    """An ascending list of the kinds that stand on all ways from the root to each of some leaves."""
    leading = ways_from_root(web)
    onward = ways_to_leaves(web, some)
    # No leaf has more ways by a kind than in all: where the sums are equal, so they are for each.
    return [kind for kind in range(len(onward)) if leading[kind] * onward[kind] == onward[-1]]


def ways_from_root(web):
    """A list that tells of each kind how many ways lead from the root to it."""
    counts = [0 for _ in range(root(web))] + [1]
    # A child's number is less than its parents', so they all come ahead of it.
    for kind in range(root(web), web[0] - 1, -1):
        for child in children(web, kind):
            counts[child] = counts[child] + counts[kind]
    return counts


def ways_to_leaves(web, some):
    """A list that tells of each kind how many ways lead from it to any of some leaves."""
    counts = [1 if leaf in some else 0 for leaf in range(web[0])]
    for item in web[1]:
        counts.append(sum([counts[child] for child in item]))
    return counts
