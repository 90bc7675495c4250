"""Words of some letters D and, behind these, some letters E."""

from math import comb, factorial

from hoproads.plain import check_number, terms_from
from hoproads.words import terms_of_word

MOST_IN_SUM = 6
MOST_IN_COUNT = 60


def block_sum(cars, gaps):
    """The ordered sum of the word of so many letters D and, behind these, so many letters E."""
    check_number(cars, 0, MOST_IN_SUM)
    check_number(gaps, 0, MOST_IN_SUM)
    return terms_from(terms_of_word("D" * cars + "E" * gaps))


def block_straight(cars, gaps):
    """The ascending tuple of the triples (i, j, many) of all terms of the sum of a block with x = 0."""
    check_number(cars, 1, MOST_IN_COUNT)
    check_number(gaps, 1, MOST_IN_COUNT)
    only_cars = [(0, left, comb(cars - left + gaps - 1, gaps - 1)) for left in range(1, cars + 1)]
    only_gaps = [(left, 0, comb(gaps - left + cars - 1, cars - 1)) for left in range(1, gaps + 1)]
    return tuple(only_cars + only_gaps)


def partings_of(things):
    """The list of the numbers of partings of so many things into 0, 1 and so on lots, none empty."""
    counts = [1]
    for _ in range(things):
        with_one_more = [0] + counts
        counts = [lots * many for lots, many in enumerate(counts + [0])]
        counts = [many + more for many, more in zip(counts, with_one_more)]
    return counts


def count_block(cars, gaps):
    """The sum of many over all terms of the ordered sum of a block."""
    check_number(cars, 0, MOST_IN_COUNT)
    check_number(gaps, 0, MOST_IN_COUNT)
    of_cars = partings_of(cars + 1)
    of_gaps = partings_of(gaps + 1)
    total = 0
    for lots, (ways, more_ways) in enumerate(zip(of_cars[1:], of_gaps[1:])):
        total = total + factorial(lots) * factorial(lots + 1) * ways * more_ways
    return total
