"""Steady shares of rows, and the flow of a road."""

from hoproads.plain import check_most, divided, total_of
from hoproads.roads import all_rows, check_place, check_places, check_rates, check_row
from hoproads.weights import row_weight, terms_of_all_rows, value_at, weight_of_terms

MOST_PLACES_OF_ONE = 10
MOST_PLACES_OF_ALL = 6


def whole_value(rates, places):
    """The value of the whole weight of a road of so many places, also of none."""
    return value_at(rates, weight_of_terms(terms_of_all_rows(places)))


def share_of(rates, row):
    """The steady share of a row."""
    check_rates(rates)
    check_row(row)
    check_most(len(row), MOST_PLACES_OF_ONE)
    return divided(value_at(rates, row_weight(row)), whole_value(rates, len(row)))


def shares_at(rates, places):
    """The list of the steady shares of all rows of so many places, in ascending order of these."""
    values = [value_at(rates, row_weight(row)) for row in all_rows(places)]
    whole = total_of(values)
    return [divided(value, whole) for value in values]


def steady_shares(rates, places):
    """The steady shares of all rows of so many places."""
    check_rates(rates)
    check_places(places)
    check_most(places, MOST_PLACES_OF_ALL)
    return tuple(shares_at(rates, places))


def share_with(rates, places, place):
    """The steady share of all rows, added, in which a car stands in a place."""
    check_rates(rates)
    check_places(places)
    check_place(places, place)
    check_most(places, MOST_PLACES_OF_ALL)
    rows = all_rows(places)
    return total_of([share for row, share in zip(rows, shares_at(rates, places)) if row[place] == 1])


def flow(rates, places):
    """How many cars come in, on the average, as time goes on."""
    check_rates(rates)
    check_places(places)
    check_most(places, MOST_PLACES_OF_ONE)
    return divided(whole_value(rates, places - 1), whole_value(rates, places))
