"""Weights, polynomials in q, a and b, and the weights of rows and roads.

A row is put in order letter by letter: with D for a car and E for a free
place, the rule of the weights reads DE = q ED + D + E. The terms of what
stands in order are a dict from (gaps, cars, bent) to many: so many times
q ** bent, with so many letters E and, behind these, so many letters D.
"""

from math import comb

from hoproads.errors import InvalidWeight
from hoproads.plain import are_terms, check_most, powers_of, reduced, sum_of_terms, terms_from
from hoproads.roads import check_places, check_rates, check_row

MOST_TERMS = 1000
BOUNDS = (80, 80, 80, 10 ** 30)
MOST_PRODUCTS = 10000
MOST_WHOLE_PLACES = 10
ONE = ((0, 0, 0, 1),)


def is_weight(value):
    """Whether any value is a weight within the bounds."""
    return are_terms(value, MOST_TERMS, BOUNDS)


def check_weight(weight):
    """Raise InvalidWeight for what is no weight within the bounds."""
    if not is_weight(weight):
        raise InvalidWeight("a weight is asked for: an ascending tuple of terms (x, y, z, many)")


def product_of_weights(one, other):
    """The product of two weights."""
    totals = {}
    for x, y, z, many in one:
        for more_x, more_y, more_z, more in other:
            key = (x + more_x, y + more_y, z + more_z)
            totals[key] = totals.get(key, 0) + many * more
    return terms_from(totals)


def weight_sum(weight, other):
    """The sum of two weights."""
    check_weight(weight)
    check_weight(other)
    return sum_of_terms([weight, other])


def weight_product(weight, other):
    """The product of two weights."""
    check_weight(weight)
    check_weight(other)
    check_most(len(weight) * len(other), MOST_PRODUCTS)
    return product_of_weights(weight, other)


def weight_value(rates, weight):
    """The value of a weight at rates, a fraction."""
    check_rates(rates)
    check_weight(weight)
    return value_at(rates, weight)


def value_at(rates, weight):
    """The value of a weight at rates, over one common below for all terms."""
    entering, leaving, back = rates
    most = [max([int(term[at]) for term in weight], default=0) for at in range(3)]
    tops = [powers_of(back[0], most[0]), powers_of(entering[1], most[1]), powers_of(leaving[1], most[2])]
    belows = [powers_of(back[1], most[0]), powers_of(entering[0], most[1]), powers_of(leaving[0], most[2])]
    total = 0
    for x, y, z, many in weight:
        top = many * tops[0][x] * tops[1][y] * tops[2][z]
        total = total + top * belows[0][most[0] - x] * belows[1][most[1] - y] * belows[2][most[2] - z]
    return reduced(total, belows[0][-1] * belows[1][-1] * belows[2][-1])


def cars_and_gap(cars):
    """What comes of so many letters D with an E behind them: the list of (gaps, cars, bent, many)."""
    kept = [(1, past, past, comb(cars, past)) for past in range(cars + 1)]
    lost = [(0, left, past, comb(cars - left + past, past)) for left in range(1, cars + 1) for past in range(left)]
    return kept + lost


def with_car(terms):
    """The terms that come of a letter D behind terms in order."""
    return {(gaps, cars + 1, bent): many for (gaps, cars, bent), many in terms.items()}


def with_gap(terms):
    """The terms that come of a letter E behind terms in order."""
    pieces = {}
    totals = {}
    for (gaps, cars, bent), many in terms.items():
        if cars not in pieces:
            pieces[cars] = cars_and_gap(cars)
        for more_gaps, cars_left, more_bent, ways in pieces[cars]:
            key = (gaps + more_gaps, cars_left, bent + more_bent)
            totals[key] = totals.get(key, 0) + many * ways
    return totals


def with_either(terms):
    """The terms that come of a letter D, and of a letter E, behind terms in order, added."""
    totals = with_car(terms)
    for key, many in with_gap(terms).items():
        totals[key] = totals.get(key, 0) + many
    return totals


def terms_of_row(row):
    """The terms that come of a row put in order."""
    terms = {(0, 0, 0): 1}
    for item in row:
        terms = with_car(terms) if item == 1 else with_gap(terms)
    return terms


def terms_of_all_rows(places):
    """The terms that come of all rows of so many places put in order, added."""
    terms = {(0, 0, 0): 1}
    for _ in range(places):
        terms = with_either(terms)
    return terms


def weight_of_terms(terms):
    """The weight of terms in order, with a for each letter E, and b for each D."""
    return terms_from({(bent, gaps, cars): many for (gaps, cars, bent), many in terms.items()})


def row_weight(row):
    """The weight of a row."""
    check_row(row)
    return weight_of_terms(terms_of_row(row))


def whole_weight(places):
    """The whole weight of a road of so many places."""
    check_places(places)
    check_most(places, MOST_WHOLE_PLACES)
    return weight_of_terms(terms_of_all_rows(places))
