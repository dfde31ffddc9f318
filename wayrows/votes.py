"""Several webs with equally many leaves: what they have in common, and how far they are apart."""

from wayrows.alike import check_leaves
from wayrows.built import web_of
from wayrows.rows import lot


def common(some):
    """The tuple, in order, of the rows that stand in all lots, as often as where they stand least."""
    return voted(some, len(some))


def united(some):
    """The tuple, in order, of the rows of any lot, as often as where they stand most."""
    return voted(some, 1)


def voted(some, many):
    """The tuple, in order, of the rows, each as often as it stands in at least many of the lots."""
    found = tallies(some)
    told = []
    for row in sorted(set([row for tally in found for row in tally])):
        told = told + [row] * times_in_many(row, found, many)
    return tuple(told)


def middle(some):
    """The place of the first web with the least sum of distances to all."""
    found = tallies(some)
    sums = [sum([far(one, other) for other in found]) for one in found]
    return sums.index(min(sums))


def apart(some):
    """The greatest distance of two of the webs, with the first places where it is; or None."""
    found = tallies(some)
    told = [(-far(found[one], found[other]), one, other)
            for other in range(len(found)) for one in range(other)]
    if len(told) == 0:
        return None
    least, one, other = min(told)
    return (-least, one, other)


def agreed(some, many):
    """The form of the web whose lot voted tells; NoWeb if there is none."""
    return web_of(some[0][0], voted(some, many))


def tallies(some):
    """A list that tells for each web how often each row stands in its lot, as a dict.

    Raises OtherLeaves if the webs have not equally many leaves."""
    for web in some:
        check_leaves(some[0], web)
    return [tally_of(lot(web)) for web in some]


def tally_of(value):
    """A dict that tells how often each row of a lot stands in it."""
    tally = {}
    for row in value:
        tally[row] = tally.get(row, 0) + 1
    return tally


def times_in_many(row, found, many):
    """The greatest number of times that the row stands, at the least, in so many of the lots."""
    times = sorted([tally.get(row, 0) for tally in found], reverse=True)
    return times[many - 1] if many <= len(times) else 0


def far(one, other):
    """The distance of two webs by their tallies."""
    shared = sum([abs(one[row] - other.get(row, 0)) for row in one])
    return shared + sum([other[row] for row in other if row not in one])
