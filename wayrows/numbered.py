"""Ways by their numbers: those from one kind to another are numbered in ascending order."""

from wayrows.errors import NoWay
from wayrows.integers import is_between
from wayrows.rows import ways_to
from wayrows.webs import children, root


def way_at(web, kind, to, value):
    """The way from kind to to with the number value; NoWay if there is none with this number."""
    counts = ways_to(web, to)
    if not is_between(value, 0, counts[kind] - 1):
        raise NoWay(value)
    stops = [kind]
    left = value
    while stops[-1] != to:
        child, left = next_stop(web, stops[-1], counts, left)
        stops.append(child)
    return tuple(stops)


def next_stop(web, kind, counts, place):
    """The child by which the kind's way with this place goes on, and the place of the rest of it."""
    below = children(web, kind)
    at = 0
    # The children ascend, so the ways by a lesser child stand ahead of those by a greater one.
    while place >= counts[below[at]]:
        place = place - counts[below[at]]
        at = at + 1
    return (below[at], place)


def place_of(web, value):
    """The number of the way value among those with its first and last kind; NoWay if it is none."""
    if not is_way(web, value):
        raise NoWay(value)
    counts = ways_to(web, value[-1])
    ahead = [counts[child] for at in range(len(value) - 1)
             for child in children(web, value[at]) if child < value[at + 1]]
    return sum(ahead)


def is_way(web, value):
    """Whether value is the tuple of the kinds on a way."""
    if not isinstance(value, tuple) or len(value) == 0:
        return False
    # Ahead of the links, as True would pass for the child 1.
    if not all([is_between(item, 0, root(web)) for item in value]):
        return False
    return all([value[at + 1] in children(web, value[at]) for at in range(len(value) - 1)])
