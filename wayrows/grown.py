"""All binary webs with so many leaves and mixings, grown from those with fewer."""

from wayrows.edits import grafted, spots
from wayrows.forms import beside, renamed


def all_webs(leaves, many):
    """The ascending tuple of the forms of all binary webs with so many leaves and mixings."""
    # The roads from the root and from each mixing's child end at unlike leaves.
    if many >= leaves:
        return ()
    found = binary_trees(leaves)
    for _ in range(many):
        found = with_mixing(found)
    return tuple(sorted(found))


def binary_trees(leaves):
    """A list of the forms of all binary webs with so many leaves and no mixings."""
    if leaves == 1:
        return [(1, ())]
    found = []
    # The root's children part the leaves in two; the one above leaf 0 has not all of them.
    for mask in range((1 << (leaves - 1)) - 1):
        first = [leaf for leaf in range(leaves) if leaf == 0 or mask >> (leaf - 1) & 1 == 1]
        names = tuple(first + [leaf for leaf in range(leaves) if leaf not in first])
        for one in binary_trees(len(first)):
            for other in binary_trees(leaves - len(first)):
                found.append(renamed(beside(one, other), names))
    return found


def with_mixing(webs):
    """A list of the forms of all binary webs with one mixing more than all those with so many."""
    # If a link into a mixing is struck in one of them, its parent and the mixing go: what is
    # left is binary, and a link between two links puts them in again.
    return sorted(set([grafted(web, begin, end) for web in webs for begin, end in spots(web)
                       if begin[0] != "in" and end[0] == "on"]))
