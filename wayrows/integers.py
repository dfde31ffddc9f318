"""What the modules ask of integers and tuples of them, in values of any kind."""

from math import gcd


def is_integer(value):
    """Whether value is an integer: True and False are none."""
    return isinstance(value, int) and not isinstance(value, bool)


def is_between(value, low, high):
    """Whether value is an integer from low to high."""
    return is_integer(value) and low <= value <= high


def is_integers(value, many):
    """Whether value is a tuple of so many integers."""
    if not isinstance(value, tuple) or len(value) != many:
        return False
    return all([is_integer(item) for item in value])


def is_ascending(value, high):
    """Whether value is an ascending tuple of integers from 0 to high."""
    if not isinstance(value, tuple):
        return False
    # The items are judged before they are compared: other values may have no order.
    if not all([is_between(item, 0, high) for item in value]):
        return False
    return all([value[at] < value[at + 1] for at in range(len(value) - 1)])


def lowest_terms(part, whole):
    """The pair (a, b) in lowest terms that is as much as part of whole, a whole of 1 or more."""
    shared = gcd(part, whole)
    return (part // shared, whole // shared)
