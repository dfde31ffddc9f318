"""Rows: how many ways lead from a kind to each leaf."""

from wayrows.webs import beneath, children, root


def row(web, kind):
    """The tuple that tells for each leaf how many ways lead from the kind to it."""
    return rows_of(web)[kind]


def rows_of(web):
    """A list that tells the row of each kind."""
    leaves, inner = web
    found = [leaf_row(leaves, leaf) for leaf in range(leaves)]
    # A child's number is less than its parent's, so its row is there when it is needed.
    for item in inner:
        found.append(tuple([sum([found[child][leaf] for child in item]) for leaf in range(leaves)]))
    return found


def leaf_row(leaves, leaf):
    """The row of a leaf: a 1 at the leaf and 0 elsewhere."""
    return tuple([1 if at == leaf else 0 for at in range(leaves)])


def lot(web):
    """The tuple of the rows of all kinds, in order."""
    return tuple(sorted(rows_of(web)))


def ways(web, kind, to):
    """How many ways lead from a kind to a kind to."""
    return ways_to(web, to)[kind]


def ways_to(web, to):
    """A list that tells of each kind how many ways lead from it to the kind to."""
    counts = []
    for kind in range(root(web) + 1):
        below = sum([counts[child] for child in children(web, kind)])
        # The way that stays where it is counts, too.
        counts.append(below + 1 if kind == to else below)
    return counts


def is_beneath(web, kind, to):
    """Whether a way leads from kind to to, and they are unlike."""
    return to in beneath(web, kind)
