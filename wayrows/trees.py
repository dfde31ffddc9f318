"""Trees that a web shows, told by their clusters."""

from wayrows.integers import is_ascending, lowest_terms
from wayrows.rows import rows_of
from wayrows.webs import mixings, parents


def choices(web):
    """How many choices of one parent for each mixing there are."""
    many = 1
    for _, uppers in mixings_and_parents(web):
        many = many * len(uppers)
    return many


def tree(web, choice):
    """The tree shown if each mixing has the parent at its place in choice alone."""
    return tree_by(web, {kind: uppers[place]
                         for (kind, uppers), place in zip(mixings_and_parents(web), choice)})


def trees(web):
    """The ascending tuple of all trees shown."""
    return tuple(sorted(set(all_trees(web))))


def tree_error(leaves, value):
    """The first word by which value is no tree with so many leaves; None for a tree."""
    if not is_clusters(leaves, value):
        return "tree"
    if leaves > 1 and tuple(range(leaves)) not in value:
        return "all"
    masks = [sum([1 << leaf for leaf in cluster]) for cluster in value]
    for at, one in enumerate(masks):
        for other in masks[:at]:
            if one & other not in (0, one, other):
                return "cross"
    return None


def shows(web, value):
    """The first choice whose tree value is; None if there is none."""
    # Equal values that are no trees, as with True for 1, are sorted out first.
    if tree_error(web[0], value) is not None:
        return None
    found = all_trees(web)
    if value not in found:
        return None
    return all_choices(web)[found.index(value)]


def how_often(web, value):
    """The number of choices whose tree value is."""
    if tree_error(web[0], value) is not None:
        return 0
    return all_trees(web).count(value)


def soft(web):
    """The ascending tuple of all clusters of all trees shown."""
    return tuple(sorted(set([cluster for told in trees(web) for cluster in told])))


def hard(web):
    """The ascending tuple of the sets of two or more leaves beneath kinds of the web."""
    below = [tuple([leaf for leaf, number in enumerate(row) if number > 0])
             for row in rows_of(web)]
    return tuple(sorted(set([cluster for cluster in below if len(cluster) > 1])))


def backed(web, some):
    """The part of all choices in whose tree some leaves are a cluster, in lowest terms."""
    found = all_trees(web)
    return lowest_terms(len([told for told in found if some in told]), len(found))


def is_clusters(leaves, value):
    """Whether value is an ascending tuple of ascending tuples of two or more leaves each."""
    if not isinstance(value, tuple):
        return False
    if not all([is_ascending(item, leaves - 1) and len(item) > 1 for item in value]):
        return False
    return all([value[at] < value[at + 1] for at in range(len(value) - 1)])


def mixings_and_parents(web):
    """A list of the pairs of a mixing and the tuple of its parents, in ascending order."""
    return [(kind, parents(web, kind)) for kind in mixings(web)]


def all_choices(web):
    """A list of all choices, in ascending order."""
    found = [()]
    for _, uppers in mixings_and_parents(web):
        found = [choice + (place,) for choice in found for place in range(len(uppers))]
    return found


def all_trees(web):
    """A list of the trees of all choices, in the order of these."""
    found = [{}]
    for kind, uppers in mixings_and_parents(web):
        found = [{**chosen, kind: upper} for chosen in found for upper in uppers]
    return [tree_by(web, chosen) for chosen in found]


def tree_by(web, chosen):
    """The tree shown if mixings have just the parents that are chosen for them, by a dict."""
    leaves, inner = web
    # The leaves beneath each kind, as the bits of a number.
    masks = [1 << leaf for leaf in range(leaves)]
    for at, item in enumerate(inner):
        bits = 0
        for child in item:
            if chosen.get(child, leaves + at) == leaves + at:
                bits = bits | masks[child]
        masks.append(bits)
    several = sorted(set([mask for mask in masks if mask & (mask - 1) > 0]))
    return tuple(sorted([cluster_of(mask, leaves) for mask in several]))


def cluster_of(mask, leaves):
    """The ascending tuple of the leaves whose bits are in a number."""
    return tuple([leaf for leaf in range(leaves) if mask >> leaf & 1 == 1])
