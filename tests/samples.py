"""Webs and other values that the tests share, and the document's words written out plainly."""

from itertools import combinations, combinations_with_replacement, product

from wayrows.webs import web_error

W = (3, ((1,), (0, 3), (2, 3), (4, 5)))
ONE = (1, ())
CHERRY = (2, ((0, 1),))
# A mixing (4) above a kind with children (3); its number is below that of its plain sister (5).
ABOVE = (3, ((0, 1), (3,), (2, 4), (4, 5)))
# A mixing (4) with three parents.
THREE = (4, ((0,), (1, 4), (2, 4), (3, 4), (5, 6, 7)))
# A kind (5) with four children, two of them mixings; a root with three children.
BROAD = (5, ((1,), (3,), (0, 2, 5, 6), (4, 5), (6, 7, 8)))
FLAT = (8, ((0, 1, 2, 3, 4, 5, 6, 7),))
# As many leaves and inner kinds as a web may have: mixings 8 to 14, above them plain kinds.
FULL = (8, ((1,), (2,), (3,), (4,), (5,), (6,), (7,), (0, 8, 9), (10, 15), (11, 16), (12, 17),
            (13, 18), (14, 19), (8, 20), (9, 21), (10, 22), (11, 23), (12, 24), (13, 25), (14, 26)))
# A web but for its 21 inner kinds.
OVERFULL = (8, ((1,), (2,), (3,), (4,), (5,), (6,), (7,), (0, 8), (9, 15), (10, 16), (11, 17),
                (12, 18), (13, 19), (14, 20), (8, 21), (9, 22), (10, 23), (11, 24), (12, 25),
                (13, 26), (14, 27)))
WEBS = (W, ONE, CHERRY, ABOVE, THREE, BROAD, FLAT, FULL)
# Two mixings (4 and 6), one beneath the other.
LADDER = (4, ((1,), (0, 4), (5,), (2, 6), (3, 4, 6), (7, 8)))

BIG = 10 ** 39


def tower(levels, many):
    """A web with one mixing of so many parents on each level; the ways grow by many each time."""
    leaves = levels + 1
    inner, top = [], 0
    for leaf in range(1, leaves):
        mixing = leaves + len(inner)
        inner.append((top,))
        inner.append((leaf, mixing))
        for _ in range(many - 1):
            inner.append((mixing, leaves + len(inner) - 1))
        top = leaves + len(inner) - 1
    return (leaves, tuple(inner))


def deep(levels, kind=tuple):
    """A value nested so many levels deep."""
    value = 0
    for _ in range(levels):
        value = kind([value])
    return value


ANY_VALUES = (
    None, True, False, 0, 1, 2, 3, -1, BIG, -BIG, "", "web", "()", "x" * 3000,
    (), [], {}, (0,), [0], {0: 1}, (1,), (1, 2, 3), [1, ()], {"a": (1, [None])}, {1: (), 2: ()},
    (None, None), (True, False), ((), ()), ([], {}), "ab", deep(12), deep(12, list),
    {"web": deep(10)}, tuple(range(2000)), list(range(2000)), {k: k for k in range(2000)},
)


def all_values(leaves, many):
    """All pairs (leaves, inner) with many items in inner, each right by itself."""
    items = []
    for kind in range(leaves, leaves + many):
        items.append([some for size in range(1, kind + 1)
                      for some in combinations(range(kind), size)])
    return [(leaves, inner) for inner in product(*items)]


def small_values():
    """All pairs with right items and few kinds, webs and others."""
    found = []
    for leaves, most in ((1, 4), (2, 4), (3, 3), (4, 2)):
        for many in range(most + 1):
            found.extend(all_values(leaves, many))
    return found


def with_link_changed(web):
    """The values that differ from the web in one link, put in or left out."""
    leaves, inner = web
    found = []
    for at, item in enumerate(inner):
        for kind in range(leaves + at):
            changed = tuple(sorted(set(item) ^ {kind}))
            if changed:
                found.append((leaves, inner[:at] + (changed,) + inner[at + 1:]))
    return found


def changed_webs():
    """The values that differ from a sample in one link, and from some of them in two."""
    found = [value for web in WEBS for value in with_link_changed(web)]
    for web in (W, ABOVE, THREE, BROAD):
        for value in with_link_changed(web):
            found.extend(with_link_changed(value))
    return found


def small_webs():
    """All webs among the small values."""
    return [value for value in small_values() if web_error(value) is None]


class Draws:
    """Numbers that look drawn by lot, the same ones each time."""

    def __init__(self, seed):
        self.state = seed

    def below(self, many):
        """A number from 0 to many - 1."""
        self.state = (self.state * 6364136223846793005 + 1442695040888963407) % 2 ** 64
        return (self.state >> 33) % many

    def some(self, items, many):
        """So many of the items, in any order."""
        left, taken = list(items), []
        for _ in range(many):
            taken.append(left.pop(self.below(len(left))))
        return taken


def drawn_web(draws, leaves):
    """A web with so many leaves and few kinds, built up from the leaves by joining."""
    inner, plain, mixed = [], list(range(leaves)), {}
    while len(plain) > 1 or any(mixed[kind] < 2 for kind in mixed):
        if len(plain) > 1 and len(mixed) < leaves - 1 and draws.below(3) == 0:
            child = draws.some(plain, 1)[0]
            plain.remove(child)
            mixed[leaves + len(inner)] = 0
            inner.append((child,))
        else:
            lacking = [kind for kind in mixed if mixed[kind] < 2] or list(mixed)
            below = draws.some(lacking, min(len(lacking), draws.below(3)))
            below += draws.some(plain, min(len(plain), 1 + draws.below(2)))
            if len(below) > 1:
                for child in below:
                    if child in mixed:
                        mixed[child] += 1
                    else:
                        plain.remove(child)
                plain.append(leaves + len(inner))
                inner.append(tuple(sorted(below)))
    return (leaves, tuple(inner))


def drawn_webs(many, seed=1, least=1, most=8):
    """So many drawn webs, with all numbers of leaves from least to most."""
    draws, found = Draws(seed), []
    while len(found) < many:
        web = drawn_web(draws, least + len(found) % (most - least + 1))
        if web_error(web) is None:
            found.append(web)
    return found


def with_numbers(web, order):
    """The web in which the kinds that are no leaves have the numbers of their places in order."""
    leaves, inner = web
    numbers = {leaf: leaf for leaf in range(leaves)}
    numbers.update({kind: leaves + at for at, kind in enumerate(order)})
    return (leaves, tuple(tuple(sorted(numbers[child] for child in inner[kind - leaves]))
                          for kind in order))


def numberings(web):
    """The web in all numberings of its inner kinds in which children stand below their parents."""
    leaves, inner = web

    def orders(begun):
        if len(begun) == len(inner):
            yield begun
        for kind in range(leaves, leaves + len(inner)):
            if kind not in begun and all(child < leaves or child in begun
                                         for child in inner[kind - leaves]):
                yield from orders(begun + (kind,))

    return [with_numbers(web, order) for order in orders(())]


def numbered_otherwise(web, draws):
    """The web in a drawn numbering of its inner kinds."""
    leaves, inner = web
    order = []
    while len(order) < len(inner):
        free = [kind for kind in range(leaves, leaves + len(inner)) if kind not in order
                and all(child < leaves or child in order for child in inner[kind - leaves])]
        order.extend(draws.some(free, 1))
    return with_numbers(web, order)


def plain_children(web):
    """A dict that tells the children of each kind."""
    leaves, inner = web
    told = {kind: () for kind in range(leaves)}
    told.update({leaves + at: item for at, item in enumerate(inner)})
    return told


def plain_parents(web):
    """A dict that tells the parents of each kind."""
    below = plain_children(web)
    return {kind: tuple(sorted(upper for upper in below if kind in below[upper]))
            for kind in below}


def plain_ways(web, kind):
    """All ways from a kind to any kinds, each a tuple of the kinds on it."""
    found = [(kind,)]
    for child in plain_children(web)[kind]:
        found.extend([(kind,) + rest for rest in plain_ways(web, child)])
    return found


def plain_rows(web):
    """A dict that tells the row of each kind, by all ways counted one by one."""
    return {kind: tuple(sum(way[-1] == leaf for way in plain_ways(web, kind))
                        for leaf in range(web[0]))
            for kind in plain_children(web)}


def plain_lot(web):
    """The rows of all kinds, in order."""
    return tuple(sorted(plain_rows(web).values()))


def plain_matches(one, other):
    """All matches of two webs, by trying: each kind goes where its children tell it to go."""
    below, beyond = plain_children(one), plain_children(other)
    found = [()] if len(below) == len(beyond) and one[0] == other[0] else []
    for kind in sorted(below):
        longer = []
        for begun in found:
            for goal in sorted(beyond):
                fits = tuple(sorted(begun[child] for child in below[kind])) == beyond[goal]
                if fits and goal not in begun and (kind >= one[0] or goal == kind):
                    longer.append(begun + (goal,))
        found = longer
    return found


def pairs_of_webs():
    """Pairs of webs with equally many leaves: small ones, and drawn ones with a link changed."""
    small = small_webs()
    found = [(one, other) for one in small for other in small if one[0] == other[0]]
    draws = Draws(11)
    for web in drawn_webs(16, 12, 2):
        changed = [value for value in with_link_changed(web) if web_error(value) is None]
        for other in [web, numbered_otherwise(web, draws)] + draws.some(changed, min(3, len(changed))):
            found.extend([(web, other), (other, web)])
    return found


def all_lots(leaves, most, extra):
    """All tuples of rows in order with each leaf's row, and up to so many rows more.

    The rows that come beside have no number above most."""
    units = [tuple(int(at == leaf) for at in range(leaves)) for leaf in range(leaves)]
    rows = [row for row in product(range(most + 1), repeat=leaves) if any(row)]
    return [tuple(sorted(units + list(more))) for many in range(extra + 1)
            for more in combinations_with_replacement(rows, many)]


def changed_lots(value):
    """The tuples of rows in order that differ from a lot in one row: out, doubled, or by one."""
    found = []
    for at, row in enumerate(value):
        rest = value[:at] + value[at + 1:]
        found.extend([rest, value + (row,)])
        for place, number in enumerate(row):
            for other in (number - 1, number + 1):
                changed = row[:place] + (other,) + row[place + 1:]
                if other >= 0 and any(changed):
                    found.append(rest + (changed,))
    return [tuple(sorted(rows)) for rows in found]
