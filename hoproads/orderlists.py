"""Lists of orders by their rows, and how many have so much of two kinds."""

from hoproads.orderfalls import patterns_of, row_by_falls
from hoproads.orders import crossings_of, lows_of, row_by_crossings, tops_of
from hoproads.plain import ascending, check_most
from hoproads.roads import check_places, check_row

MOST_PLACES_OF_LISTS = 6
MOST_PLACES_OF_COUNTS = 5


def orders_of(things):
    """The ascending list of all orders of so many things."""
    orders = [()]
    for _ in range(things):
        orders = [order + (thing,) for order in orders for thing in range(things) if thing not in order]
    return orders


def check_short_row(row):
    """Raise InvalidRow for what is no row, and TooMany for more than 6 places."""
    check_row(row)
    check_most(len(row), MOST_PLACES_OF_LISTS)


def orders_crossing(row):
    """The ascending list of all orders whose row by crossings is a row."""
    check_short_row(row)
    return [order for order in orders_of(len(row) + 1) if row_by_crossings(order) == row]


def orders_falling(row):
    """The ascending list of all orders whose row by falls is a row."""
    check_short_row(row)
    return [order for order in orders_of(len(row) + 1) if row_by_falls(order) == row]


def orders_for(places):
    """The ascending list of all orders of a thing more than there are places, at most 5."""
    check_places(places)
    check_most(places, MOST_PLACES_OF_COUNTS)
    return orders_of(places + 1)


def counted(pairs):
    """The ascending list of the triples of the items of each pair in a list, and of how often it is there."""
    totals = {}
    for pair in pairs:
        totals[pair] = totals.get(pair, 0) + 1
    return [pair + (totals[pair],) for pair in ascending(totals)]


def joint_crossings(places):
    """How many orders have so many cars in their row by crossings, and so many crossings."""
    return counted([(sum(row_by_crossings(order)), len(crossings_of(order))) for order in orders_for(places)])


def joint_patterns(places):
    """How many orders have so many cars in their row by falls, and so many patterns."""
    return counted([(sum(row_by_falls(order)), len(patterns_of(order))) for order in orders_for(places)])


def joint_ends(places):
    """How many orders have so many lows, and so many tops."""
    return counted([(len(lows_of(order)), len(tops_of(order))) for order in orders_for(places)])
