"""Polynomials, tuples of the fractions of the powers from 0 on, and the step polynomials."""

from hoproads.errors import InvalidPolynomial
from hoproads.plain import added, check_number, is_fraction, less, times, total_of
from hoproads.roads import check_rates
from hoproads.trailweights import NOUGHT, ONE, fall_at, level_at, moments_at

MOST_DEGREE = 8
MOST_FRACTIONS_OF_A_MEAN = 17
MOST_FRACTIONS_OF_A_FACTOR = 9


def is_polynomial(value, fewest, most):
    """Whether any value is a polynomial of so many fractions, from the fewest to the most."""
    if not isinstance(value, tuple) or not fewest <= len(value) <= most:
        return False
    return all([is_fraction(item) for item in value])


def check_polynomial(polynomial, fewest, most):
    """Raise InvalidPolynomial for what is no polynomial of so many fractions."""
    if not is_polynomial(polynomial, fewest, most):
        raise InvalidPolynomial(f"a tuple of {fewest} to {most} fractions is asked for")


def item_at(polynomial, power):
    """The fraction of a power in a polynomial, also of one behind its last one."""
    return polynomial[power] if power < len(polynomial) else NOUGHT


def times_x(polynomial):
    """A polynomial times x."""
    return (NOUGHT,) + polynomial


def scaled(factor, polynomial):
    """A polynomial times a fraction."""
    return tuple([times(factor, item) for item in polynomial])


def polynomial_less(one, other):
    """A polynomial less another one, as long as the longer of both."""
    powers = max(len(one), len(other))
    return tuple([less(item_at(one, power), item_at(other, power)) for power in range(powers)])


def step_polynomial(rates, degree):
    """The step polynomial of a degree."""
    check_rates(rates)
    check_number(degree, 0, MOST_DEGREE)
    before = ()
    last = (ONE,)
    for height in range(degree):
        longer = polynomial_less(times_x(last), scaled(level_at(rates, height), last))
        # the step polynomial of degree 1 has none before the one of degree 0
        fallen = scaled(fall_at(rates, height), before) if height > 0 else ()
        before = last
        last = polynomial_less(longer, fallen)
    return last


def polynomial_mean(rates, polynomial):
    """The mean of a polynomial: each fraction times the moment of as many steps as its power, added."""
    check_rates(rates)
    check_polynomial(polynomial, 0, MOST_FRACTIONS_OF_A_MEAN)
    moments = moments_at(rates, len(polynomial))
    return total_of([times(item, moments[power]) for power, item in enumerate(polynomial)])


def polynomial_product(one_row, other_row):
    """The product of two polynomials, of one fraction fewer than both have, or () if one of them is ()."""
    check_polynomial(one_row, 0, MOST_FRACTIONS_OF_A_FACTOR)
    check_polynomial(other_row, 0, MOST_FRACTIONS_OF_A_FACTOR)
    if one_row == () or other_row == ():
        return ()
    product = [NOUGHT] * (len(one_row) + len(other_row) - 1)
    for power, item in enumerate(one_row):
        for more, other in enumerate(other_row):
            product[power + more] = added(product[power + more], times(item, other))
    return tuple(product)
