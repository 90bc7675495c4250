"""Shares of all rows of a road, and whether they are steady."""

from hoproads.errors import InvalidShares
from hoproads.plain import added, check_most, is_fraction, times, total_of
from hoproads.roads import all_rows, away_at, check_places, check_rates, hopped, hops_of, rate_of

MOST_PLACES_OF_SHARES = 6


def check_few_places(places):
    """Raise InvalidPlaces for what is no number of places, and TooMany for more than 6."""
    check_places(places)
    check_most(places, MOST_PLACES_OF_SHARES)


def are_parts_of_one(value, many):
    """Whether any value is a tuple of so many fractions not less than 0 that come to 1."""
    if not isinstance(value, tuple) or len(value) != many:
        return False
    if not all([is_fraction(share) and share[0] >= 0 for share in value]):
        return False
    return total_of(value) == (1, 1)


def are_shares(places, value):
    """Whether any value is shares of the rows of so many places."""
    check_few_places(places)
    return are_parts_of_one(value, len(all_rows(places)))


def check_shares(places, shares):
    """Raise the errors for what is no number of places, too many, or no shares of the rows of so many."""
    if not are_shares(places, shares):
        raise InvalidShares("a share for each row is asked for, which come to 1")


def are_steady(rates, places, shares):
    """Whether shares of the rows of so many places are steady at rates."""
    return unsteady_rows(rates, places, shares) == []


def unsteady_at(rates, places, shares):
    """The ascending list of the rows that are not steady, at rates perhaps beyond the bounds."""
    rows = all_rows(places)
    coming = {row: (0, 1) for row in rows}
    for row, share in zip(rows, shares):
        for hop in hops_of(row):
            behind = hopped(row, hop)
            coming[behind] = added(coming[behind], times(rate_of(rates, hop), share))
    return [row for row, share in zip(rows, shares) if times(share, away_at(row, rates)) != coming[row]]


def unsteady_rows(rates, places, shares):
    """The ascending list of the rows for which what leads away and what leads to them differ."""
    check_rates(rates)
    check_shares(places, shares)
    return unsteady_at(rates, places, shares)
