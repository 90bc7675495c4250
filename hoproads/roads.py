"""Roads, their rows, the rates, and the hops of cars."""

from hoproads.errors import InvalidHop, InvalidPlace, InvalidPlaces, InvalidRates, InvalidRow
from hoproads.plain import is_fraction, is_from_to, total_of

MOST_PLACES = 12
MOST_IN_RATES = 1000


def is_row(value):
    """Whether any value is a row of 1 to 12 places."""
    if not isinstance(value, tuple) or not 1 <= len(value) <= MOST_PLACES:
        return False
    return all([is_from_to(item, 0, 1) for item in value])


def is_rate(value, least):
    """Whether any value is a fraction as rates have it, with a top from a least one on."""
    return is_fraction(value) and least <= value[0] <= MOST_IN_RATES and value[1] <= MOST_IN_RATES


def are_rates(value):
    """Whether any value is rates: a triple (in, out, back) of fractions."""
    if not isinstance(value, tuple) or len(value) != 3:
        return False
    return is_rate(value[0], 1) and is_rate(value[1], 1) and is_rate(value[2], 0)


def check_row(row):
    """Raise InvalidRow for what is no row."""
    if not is_row(row):
        raise InvalidRow("a row of 1 to 12 places is asked for")


def check_rates(rates):
    """Raise InvalidRates for what is no rates."""
    if not are_rates(rates):
        raise InvalidRates("rates are asked for: three fractions, in, out and back")


def check_places(places, most=MOST_PLACES):
    """Raise InvalidPlaces for what is no number of places from 1 to the greatest one."""
    if not is_from_to(places, 1, most):
        raise InvalidPlaces(f"an integer from 1 to {most} is asked for")


def check_place(places, place):
    """Raise InvalidPlace for what is no place of a road of so many places."""
    if not is_from_to(place, 0, places - 1):
        raise InvalidPlace(f"a place from 0 to {places - 1} is asked for")


def all_rows(places):
    """The ascending list of all rows of so many places."""
    rows = [()]
    for _ in range(places):
        rows = [row + (item,) for row in rows for item in (0, 1)]
    return rows


def hops_of(row):
    """The ascending list of all hops that can be done in a row."""
    check_row(row)
    last = len(row) - 1
    backs = [("back", place) for place in range(1, last + 1) if row[place] > row[place - 1]]
    enters = [("in", 0)] if row[0] == 0 else []
    ons = [("on", place) for place in range(last) if row[place] > row[place + 1]]
    leaves = [("out", last)] if row[last] == 1 else []
    return backs + enters + ons + leaves


def is_hop_form(value, places=MOST_PLACES):
    """Whether any value is a pair of a string and a place of so many, as hops are."""
    if not isinstance(value, tuple) or len(value) != 2:
        return False
    return isinstance(value[0], str) and is_from_to(value[1], 0, places - 1)


def can_hop(row, value):
    """Whether any value is a hop that can be done in a row."""
    return is_hop_form(value) and value in hops_of(row)


def check_hop(row, hop):
    """Raise InvalidHop for what is no hop that can be done in a row."""
    if not can_hop(row, hop):
        raise InvalidHop("a hop that can be done in the row is asked for")


def is_some_hop(value):
    """Whether any value is a hop that some row of at most 12 places can do."""
    if not is_hop_form(value):
        return False
    word, place = value
    if word == "in":
        return place == 0
    if word == "on":
        return place < MOST_PLACES - 1
    if word == "back":
        return place > 0
    return word == "out"


def hopped(row, hop):
    """The row behind a hop that can be done in a row."""
    check_row(row)
    check_hop(row, hop)
    word, place = hop
    items = list(row)
    items[place] = 1 if word == "in" else 0
    if word == "on":
        items[place + 1] = 1
    if word == "back":
        items[place - 1] = 1
    return tuple(items)


def hop_back(row, hop):
    """The hop that leads back from behind a hop to the row, None for "in" and "out"."""
    check_row(row)
    check_hop(row, hop)
    word, place = hop
    if word == "on":
        return ("back", place + 1)
    if word == "back":
        return ("on", place - 1)
    return None


def rate_of(rates, hop):
    """The rate of a hop at rates."""
    if hop[0] == "in":
        return rates[0]
    if hop[0] == "out":
        return rates[1]
    if hop[0] == "back":
        return rates[2]
    return (1, 1)


def hop_rate(rates, hop):
    """The rate, which can be 0, of a hop that some row of at most 12 places can do."""
    check_rates(rates)
    if not is_some_hop(hop):
        raise InvalidHop("a hop that some row of at most 12 places can do is asked for")
    return rate_of(rates, hop)


def away_at(row, rates):
    """The sum of the rates of all hops that lead away from a row, at rates perhaps beyond the bounds."""
    return total_of([rate_of(rates, hop) for hop in hops_of(row)])


def rate_away(row, rates):
    """The sum of the rates of all hops that lead away from a row."""
    check_row(row)
    check_rates(rates)
    return away_at(row, rates)
