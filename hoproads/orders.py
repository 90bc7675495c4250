"""Orders of one thing more than a road has places, and their crossings."""

from hoproads.errors import InvalidOrder
from hoproads.plain import is_from_to

MOST_THINGS = 13


def is_order(value):
    """Whether any value is an order of 2 to 13 things."""
    if not isinstance(value, tuple) or not 2 <= len(value) <= MOST_THINGS:
        return False
    if not all([is_from_to(thing, 0, len(value) - 1) for thing in value]):
        return False
    return all([thing in value for thing in range(len(value))])


def check_order(order):
    """Raise InvalidOrder for what is no order of 2 to 13 things."""
    if not is_order(order):
        raise InvalidOrder("an order of 2 to 13 things is asked for")


def row_by_crossings(order):
    """The row by crossings of an order."""
    check_order(order)
    return tuple([1 if order[at] >= at else 0 for at in range(1, len(order))])


def is_crossing(order, one, other):
    """Whether two indices of an order are a crossing."""
    if one < other:
        return other <= order[one] < order[other]
    return one > other > order[one] > order[other]


def crossings_of(order):
    """The ascending list of the crossings of an order."""
    check_order(order)
    indices = range(len(order))
    return [(one, other) for one in indices for other in indices if is_crossing(order, one, other)]


def tops_of(order):
    """The ascending list of the tops of an order."""
    check_order(order)
    return [at for at in range(1, len(order)) if all([thing < order[at] for thing in order[:at]])]


def lows_of(order):
    """The ascending list of the lows of an order."""
    check_order(order)
    behind = [order[at + 1:] + order[:1] for at in range(len(order))]
    return [at for at in range(1, len(order)) if all([thing > order[at] for thing in behind[at]])]


def crossing_weight(order):
    """The crossing weight of an order."""
    check_order(order)
    return ((len(crossings_of(order)), len(lows_of(order)), len(tops_of(order)), 1),)
