"""Holders: kinds that no way from the root to a leaf goes round."""

from wayrows.integers import lowest_terms
from wayrows.rows import ways
from wayrows.webs import root


def holders(web, leaf):
    """The ascending tuple of the kinds that stand on all ways from the root to the leaf."""
    return tuple([kind for kind in range(root(web) + 1) if holds(web, kind, leaf)])


def kept(web, kind):
    """The ascending tuple of the leaves to which no way from the root goes round the kind."""
    return tuple([leaf for leaf in range(web[0]) if holds(web, kind, leaf)])


def meeting(web, some):
    """The least kind that stands on all ways from the root to each of some leaves."""
    return min([kind for kind in range(root(web) + 1)
                if all([holds(web, kind, leaf) for leaf in some])])


def fraction(web, kind, leaf):
    """The part of all ways from the root to the leaf that go by the kind, in lowest terms."""
    return lowest_terms(ways_by(web, kind, leaf), ways(web, root(web), leaf))


def holds(web, kind, leaf):
    """Whether the kind stands on all ways from the root to the leaf."""
    return ways_by(web, kind, leaf) == ways(web, root(web), leaf)


def ways_by(web, kind, leaf):
    """How many ways from the root to the leaf go by the kind."""
    return ways(web, root(web), kind) * ways(web, kind, leaf)
