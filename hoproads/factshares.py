"""Steady shares of all rows that keep facts."""

from hoproads.plain import check_most, divided, is_below, times, total_of
from hoproads.roads import all_rows, check_rates
from hoproads.rowfacts import check_facts, rows_that_keep
from hoproads.steady import shares_at

MOST_PLACES = 6


def check_few(places):
    """Raise TooMany for more than 6 places."""
    check_most(places, MOST_PLACES)


def shares_keeping(rates, places, facts):
    """The dict from all rows that keep facts, in ascending order, to their steady shares."""
    shares = {row: share for row, share in zip(all_rows(places), shares_at(rates, places))}
    return {row: shares[row] for row in rows_that_keep(places, facts)}


def share_keeping(rates, places, facts):
    """The steady share of all rows, added, that keep facts."""
    check_rates(rates)
    check_facts(places, facts)
    check_few(places)
    return total_of(list(shares_keeping(rates, places, facts).values()))


def share_given(rates, places, facts, given):
    """The steady share of the rows that keep both facts, by that of those that keep the latter, None without one."""
    check_rates(rates)
    check_facts(places, facts)
    check_facts(places, given)
    check_few(places)
    shares = shares_keeping(rates, places, given)
    if shares == {}:
        return None
    both = [shares[row] for row in rows_that_keep(places, facts) if row in shares]
    return divided(total_of(both), total_of(list(shares.values())))


def likeliest(rates, places, facts):
    """The ascending list of the rows that have the greatest steady share of all that keep facts."""
    check_rates(rates)
    check_facts(places, facts)
    check_few(places)
    found = []
    greatest = (0, 1)
    for row, share in shares_keeping(rates, places, facts).items():
        if is_below(greatest, share):
            found = []
            greatest = share
        if share == greatest:
            found.append(row)
    return found


def mean_cars(rates, places, facts):
    """The mean number of cars of the rows that keep facts, by their steady shares, None without such a row."""
    check_rates(rates)
    check_facts(places, facts)
    check_few(places)
    shares = shares_keeping(rates, places, facts)
    if shares == {}:
        return None
    cars = total_of([times(share, (sum(row), 1)) for row, share in shares.items()])
    return divided(cars, total_of(list(shares.values())))
