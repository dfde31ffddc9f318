"""Forms: webs numbered in the order of their rows."""

from wayrows.bounds import MAX_INNER, MAX_LEAVES
from wayrows.errors import TooMany
from wayrows.rows import rows_of
from wayrows.webs import children, root


def form(web):
    """The web alike to it in which the inner kinds are numbered in the order of their rows."""
    leaves = web[0]
    inner = [kind for kind in in_row_order(web) if kind >= leaves]
    numbers = list(range(root(web) + 1))
    for at, kind in enumerate(inner):
        numbers[kind] = leaves + at
    return (leaves, tuple([with_numbers(children(web, kind), numbers) for kind in inner]))


def in_row_order(web):
    """All kinds in the order of their rows, of a mixing and its child the child first."""
    told = rows_of(web)
    # Of a mixing and its child, whose rows are equal, the child has the lesser number.
    pairs = sorted([(told[kind], kind) for kind in range(len(told))])
    return [kind for _, kind in pairs]


def with_numbers(item, numbers):
    """The ascending tuple of the numbers that the kinds of an item have now."""
    return tuple(sorted([numbers[kind] for kind in item]))


def inner_with_numbers(web, numbers):
    """A tuple of the items of a web whose kinds have other numbers now."""
    return tuple([with_numbers(item, numbers) for item in web[1]])


def renamed(web, names):
    """The form of the web in which each leaf k has the number names[k]."""
    numbers = names + tuple(range(web[0], root(web) + 1))
    return form((web[0], inner_with_numbers(web, numbers)))


def under(web, leaf, other):
    """The form of the web in which other hangs in the place of the leaf; TooMany if it is too big."""
    leaves = web[0] - 1 + other[0]
    check_bounds(leaves, len(web[1]) + len(other[1]))
    low = put_up(other, web[0] - 1, leaves)
    high = put_up(web, 0, leaves + len(other[1]))
    above = [number - 1 for number in high[leaf + 1:web[0]]]
    numbers = high[:leaf] + [low[root(other)]] + above + high[web[0]:]
    return form((leaves, inner_with_numbers(other, low) + inner_with_numbers(web, numbers)))


def beside(one, other):
    """The form of the web with a new root above both roots; TooMany if it is too big."""
    leaves = one[0] + other[0]
    check_bounds(leaves, len(one[1]) + len(other[1]) + 1)
    first = put_up(one, 0, leaves)
    second = put_up(other, one[0], leaves + len(one[1]))
    top = tuple(sorted([first[root(one)], second[root(other)]]))
    return form((leaves, inner_with_numbers(one, first) + inner_with_numbers(other, second) + (top,)))


def put_up(web, leaf, inner):
    """A list with new numbers for all kinds: leaves from leaf on, the others from inner on."""
    return list(range(leaf, leaf + web[0])) + list(range(inner, inner + len(web[1])))


def check_bounds(leaves, inner):
    """Raises TooMany if a web may not have so many leaves or so many inner kinds."""
    if leaves > MAX_LEAVES or inner > MAX_INNER:
        raise TooMany()
