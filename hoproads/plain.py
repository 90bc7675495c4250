"""Integers, fractions, terms and ascending lists, as all other modules use them.

Fractions are pairs (top, below) without a common divisor above 1, below from 1 on.
"""

from math import gcd, lcm

from hoproads.errors import InvalidNumber, TooMany


def is_integer(value):
    """Whether any value is an integer; True and False are not."""
    return isinstance(value, int) and not isinstance(value, bool)


def is_from_to(value, least, most):
    """Whether any value is an integer within two bounds, these included."""
    return is_integer(value) and least <= value <= most


def is_fraction(value):
    """Whether any value is a fraction, of any size."""
    if not isinstance(value, tuple) or len(value) != 2:
        return False
    top, below = value
    return is_integer(top) and is_integer(below) and below > 0 and gcd(top, below) == 1


def is_term(value, bounds):
    """Whether any value is a term: three integers from 0 on, and one from 1 on, at most the bounds."""
    if not isinstance(value, tuple) or len(value) != 4:
        return False
    kinds = [is_from_to(item, 0, most) for item, most in zip(value, bounds)]
    return all(kinds) and value[3] > 0


def are_terms(value, limit, bounds):
    """Whether any value is an ascending tuple of at most so many terms, no two with the same first three."""
    if not isinstance(value, tuple) or len(value) > limit:
        return False
    if not all([is_term(term, bounds) for term in value]):
        return False
    return all([value[at - 1][:3] < value[at][:3] for at in range(1, len(value))])


def check_number(number, least, most):
    """Raise InvalidNumber for what is no integer within two bounds."""
    if not is_from_to(number, least, most):
        raise InvalidNumber(f"an integer from {least} to {most} is asked for")


def check_most(many, limit):
    """Raise TooMany if there are more things than a limit lets."""
    if many > limit:
        raise TooMany(limit)


def reduced(top, below):
    """The fraction of a top and of a below above 0."""
    divisor = gcd(top, below)
    return (top // divisor, below // divisor)


def added(one, other):
    """The sum of two fractions."""
    return reduced(one[0] * other[1] + other[0] * one[1], one[1] * other[1])


def times(one, other):
    """The product of two fractions."""
    return reduced(one[0] * other[0], one[1] * other[1])


def less(one, other):
    """A fraction less another one."""
    return reduced(one[0] * other[1] - other[0] * one[1], one[1] * other[1])


def divided(one, other):
    """The quotient of a fraction and of one that is not 0."""
    top = one[0] * other[1]
    below = one[1] * other[0]
    return reduced(top, below) if below > 0 else reduced(-top, -below)


def over_one_below(fractions):
    """The pair of the tops of a list of fractions over the least common below, and of this below."""
    below = 1
    for one in fractions:
        below = lcm(below, one[1])
    return ([one[0] * (below // one[1]) for one in fractions], below)


def total_of(fractions):
    """The sum of a list of fractions."""
    # sums put into lowest terms one by one would take long for many great belows
    tops, below = over_one_below(fractions)
    return reduced(sum(tops), below)


def is_below(one, other):
    """Whether a fraction is less than another one."""
    return one[0] * other[1] < other[0] * one[1]


def powers_of(base, most):
    """The list of the powers of an integer, from the power 0 to the greatest one."""
    powers = [1]
    for _ in range(most):
        powers.append(powers[-1] * base)
    return powers


def ascending(items):
    """A new ascending list of integers, strings or tuples, equal ones kept.

    It compares by signs alone, as LANGUAGE.md lets sorted take tuples no more
    as soon as a class of the package can be compared by a sign.
    """
    rows = list(items)
    if len(rows) < 2:
        return rows
    middle = len(rows) // 2
    return merged(ascending(rows[:middle]), ascending(rows[middle:]))


def merged(low, high):
    """The ascending list of all items of two ascending lists."""
    both = []
    at = 0
    for item in high:
        while at < len(low) and low[at] <= item:
            both.append(low[at])
            at = at + 1
        both.append(item)
    return both + low[at:]


def terms_from(totals):
    """The ascending tuple of the terms of a dict from three integers to many, above 0."""
    return tuple([key + (totals[key],) for key in ascending(totals)])


def sum_of_terms(parts):
    """The sum of a list of tuples of terms."""
    totals = {}
    for part in parts:
        for term in part:
            totals[term[:3]] = totals.get(term[:3], 0) + term[3]
    return terms_from(totals)
