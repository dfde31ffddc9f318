"""Webs: their kinds, links, mixings and roads."""

from wayrows.bounds import MAX_INNER, MAX_LEAVES
from wayrows.integers import is_ascending, is_between


def web_error(value):
    """The first fault that makes value no web, as (kind or None, word); None for a web."""
    if not isinstance(value, tuple) or len(value) != 2:
        return (None, "web")
    leaves, inner = value
    if not is_between(leaves, 1, MAX_LEAVES):
        return (None, "leaves")
    if not isinstance(inner, tuple) or len(inner) > MAX_INNER:
        return (None, "inner")
    for at, item in enumerate(inner):
        kind = leaves + at
        if not is_ascending(item, kind - 1) or len(item) == 0:
            return (kind, "children")
    return link_error(value)


def link_error(web):
    """The first fault of the links, where leaves and items are right; None for a web."""
    counts = parent_counts(web)
    leaves = web[0]
    for kind in range(root(web)):
        if counts[kind] == 0:
            return (kind, "parents")
    for kind in range(leaves):
        if counts[kind] > 1:
            return (kind, "leaf")
    for kind in range(leaves, len(counts)):
        if counts[kind] < 2 and len(children(web, kind)) == 1:
            return (kind, "single")
    for kind in range(leaves, len(counts)):
        if counts[kind] > 1 and len(children(web, kind)) > 1:
            return (kind, "mixing")
    for kind in range(leaves, len(counts)):
        if all([counts[child] > 1 for child in children(web, kind)]):
            return (kind, "bare")
    return None


def parent_counts(web):
    """A list that tells of each kind how many parents it has."""
    counts = [0 for _ in range(root(web) + 1)]
    for item in web[1]:
        for child in item:
            counts[child] = counts[child] + 1
    return counts


def root(web):
    """The kind with the greatest number."""
    leaves, inner = web
    return leaves + len(inner) - 1


def children(web, kind):
    """The ascending tuple of the kind's children, () for a leaf."""
    leaves, inner = web
    if kind < leaves:
        return ()
    return inner[kind - leaves]


def parents(web, kind):
    """The ascending tuple of the kind's parents."""
    return tuple([upper for upper in range(root(web) + 1) if kind in children(web, upper)])


def links(web):
    """The ascending tuple of all pairs (parent, child)."""
    return tuple([(kind, child) for kind in range(root(web) + 1) for child in children(web, kind)])


def mixings(web):
    """The ascending tuple of the kinds with two or more parents."""
    counts = parent_counts(web)
    return tuple([kind for kind in range(len(counts)) if counts[kind] > 1])


def is_mixing(web, kind):
    """Whether the kind has two or more parents."""
    return len(parents(web, kind)) > 1


def beneath(web, kind):
    """The ascending tuple of the kinds to which a way leads from the kind, itself not."""
    reached = [lower == kind for lower in range(kind + 1)]
    # A child's number is less than its parent's, so one pass downwards comes to all.
    for upper in range(kind, -1, -1):
        if reached[upper]:
            for child in children(web, upper):
                reached[child] = True
    return tuple([lower for lower in range(kind) if reached[lower]])


def is_binary(web):
    """Whether plain kinds with children have two of them, and mixings two parents."""
    counts = parent_counts(web)
    for kind in range(web[0], len(counts)):
        if counts[kind] > 2:
            return False
        if counts[kind] < 2 and len(children(web, kind)) != 2:
            return False
    return True


def is_tree(web):
    """Whether there are no mixings."""
    return len(mixings(web)) == 0


def road(web, kind):
    """The kind, then always the plain child with the least number, down to a leaf."""
    counts = parent_counts(web)
    stops = [kind]
    while stops[-1] >= web[0]:
        stops.append(min([child for child in children(web, stops[-1]) if counts[child] < 2]))
    return tuple(stops)


def leaf_of(web, kind):
    """The leaf at the end of the kind's road."""
    return road(web, kind)[-1]
