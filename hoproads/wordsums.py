"""Ordered sums: sums, products, powers, and what they come to."""

from hoproads.errors import InvalidSum
from hoproads.plain import are_terms, check_number, powers_of, sum_of_terms, terms_from
from hoproads.weights import terms_of_all_rows, weight_of_terms, with_gap

MOST_TERMS = 500
BOUNDS = (60, 60, 200, 10 ** 30)
MOST_FACTOR_TERMS = 80
FACTOR_BOUNDS = (6, 6, 60, 10 ** 12)
MOST_POWER = 9
MOST_AT = 1000


def is_ordered_sum(value):
    """Whether any value is an ordered sum within the bounds."""
    return are_terms(value, MOST_TERMS, BOUNDS)


def check_sum(one):
    """Raise InvalidSum for what is no ordered sum within the bounds."""
    if not is_ordered_sum(one):
        raise InvalidSum("an ordered sum is asked for: an ascending tuple of terms (i, j, x, many)")


def check_factor(one):
    """Raise InvalidSum for what is no ordered sum within the closer bounds of products."""
    if not are_terms(one, MOST_FACTOR_TERMS, FACTOR_BOUNDS):
        raise InvalidSum("an ordered sum is asked for, of at most 80 terms, of short words")


def sum_added(one, two):
    """The sum of two ordered sums."""
    check_sum(one)
    check_sum(two)
    return sum_of_terms([one, two])


def sum_times(one, two):
    """The product of two ordered sums."""
    check_factor(one)
    check_factor(two)
    # an ascending sum has its terms with fewer letters E ahead, so each letter is set behind one just once
    behind = {term[:3]: term[3] for term in one}
    gaps_set = 0
    totals = {}
    for gaps, cars, bent, many in two:
        while gaps_set < gaps:
            behind = with_gap(behind)
            gaps_set = gaps_set + 1
        for (i, j, x), more in behind.items():
            key = (i, j + cars, x + bent)
            totals[key] = totals.get(key, 0) + many * more
    return terms_from(totals)


def power_of_both(letters):
    """The sum of the ordered sums of all words of so many letters."""
    check_number(letters, 0, MOST_POWER)
    return terms_from(terms_of_all_rows(letters))


def sum_weight(one):
    """The weight to which an ordered sum comes with a for each letter E and b for each D."""
    check_sum(one)
    return weight_of_terms({term[:3]: term[3] for term in one})


def sum_mirrored(one):
    """The ordered sum with i and j exchanged in all terms."""
    check_sum(one)
    return terms_from({(j, i, x): many for i, j, x, many in one})


def sum_at(one, number):
    """The ascending tuple of the triples (i, j, many) to which an ordered sum comes with an integer as q."""
    check_sum(one)
    check_number(number, 0, MOST_AT)
    powers = powers_of(number, BOUNDS[2])
    totals = {}
    for i, j, x, many in one:
        totals[(i, j)] = totals.get((i, j), 0) + many * powers[x]
    # an ascending sum has its pairs (i, j) in order, and a dict keeps this
    return tuple([key + (many,) for key, many in totals.items() if many > 0])
