"""Fractions of polynomials, cut at a depth, and their coefficients."""

from hoproads.errors import InvalidPolynomial
from hoproads.plain import check_number, divided, less, times
from hoproads.roads import check_rates
from hoproads.trailbasis import check_polynomial, item_at, polynomial_less, scaled, times_x
from hoproads.trailweights import NOUGHT, ONE, fall_at, level_at

MOST_DEPTH = 6
MOST_FRACTIONS = 20
MOST_COEFFICIENTS = 20


def without_last_noughts(polynomial):
    """A polynomial without the noughts at its end; its first fraction stays."""
    kept = len(polynomial)
    while kept > 1 and polynomial[kept - 1] == NOUGHT:
        kept = kept - 1
    return polynomial[:kept]


def cut_fraction(rates, depth):
    """The pair (top, below) of polynomials of the fraction cut at a depth."""
    check_rates(rates)
    check_number(depth, 0, MOST_DEPTH)
    top = (NOUGHT,)
    below = (ONE,)
    # from the greatest height, at which it is cut, down to the height 0
    for height in range(depth - 1, -1, -1):
        level = times_x(scaled(level_at(rates, height), below))
        fall = times_x(times_x(scaled(fall_at(rates, height + 1), top)))
        top, below = below, polynomial_less(polynomial_less(below, level), fall)
    return (without_last_noughts(top), without_last_noughts(below))


def quotient_row(top, below, many):
    """The tuple of the first coefficients of top divided by below."""
    check_polynomial(top, 1, MOST_FRACTIONS)
    check_polynomial(below, 1, MOST_FRACTIONS)
    if below[0] == NOUGHT:
        raise InvalidPolynomial("the first fraction of below must not be nought")
    check_number(many, 0, MOST_COEFFICIENTS)
    found = []
    for power in range(many):
        left = item_at(top, power)
        for ahead, item in enumerate(found):
            left = less(left, times(item, item_at(below, power - ahead)))
        found.append(divided(left, below[0]))
    return tuple(found)
