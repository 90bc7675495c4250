"""Tables of moments, their determinants, and the steps that moments tell."""

from hoproads.errors import InvalidMoments
from hoproads.plain import added, check_number, divided, is_fraction, less, times
from hoproads.roads import check_rates
from hoproads.trailbasis import is_polynomial
from hoproads.trailweights import NOUGHT, ONE, moments_at, moments_by

MOST_SIZE = 6
MOST_MOMENTS = 13


def moment_table(rates, size, shift):
    """The table, of so many rows, with the moment of i + j + shift steps at the places i and j."""
    check_rates(rates)
    check_number(size, 0, MOST_SIZE)
    check_number(shift, 0, 1)
    moments = moments_at(rates, 2 * size + shift)
    return tuple([tuple(moments[row + shift:row + shift + size]) for row in range(size)])


def is_square(value):
    """Whether any value is a tuple of 0 to 6 tuples of as many fractions."""
    if not isinstance(value, tuple) or len(value) > MOST_SIZE:
        return False
    for row in value:
        if not isinstance(row, tuple) or len(row) != len(value):
            return False
        if not all([is_fraction(item) for item in row]):
            return False
    return True


def determinant_of(rows):
    """The determinant of a square table, by the items of its first row and what is left without each."""
    if rows == ():
        return ONE
    total = NOUGHT
    for at, item in enumerate(rows[0]):
        rest = tuple([row[:at] + row[at + 1:] for row in rows[1:]])
        part = times(item, determinant_of(rest))
        total = added(total, part) if at % 2 == 0 else less(total, part)
    return total


def determinant(table_so):
    """The determinant of a square table of fractions."""
    if not is_square(table_so):
        raise InvalidMoments("a tuple of 0 to 6 tuples of as many fractions is asked for")
    return determinant_of(table_so)


def is_moments(value):
    """Whether any value is a tuple of 1 to 13 fractions, the first one 1."""
    return is_polynomial(value, 1, MOST_MOMENTS) and value[0] == ONE


def steps_told(value):
    """The pair of the tuples of the level weights, and of the fall weights, that moments tell."""
    if not is_moments(value):
        raise InvalidMoments("a tuple of 1 to 13 fractions, the first one 1, is asked for")
    levels = []
    falls = [NOUGHT]
    # the weight of the trail that goes straight up as far as can be, and straight down
    highest = ONE
    for steps in range(1, len(value)):
        # with 0 in the place of the weight that is not told yet, just its one trail is left out
        others = moments_by(levels + [NOUGHT], falls + [NOUGHT], steps)[steps]
        weight = divided(less(value[steps], others), highest)
        if steps % 2 == 1:
            levels.append(weight)
        else:
            falls.append(weight)
            highest = times(highest, weight)
        if highest == NOUGHT:
            break
    return (tuple(levels), tuple(falls[1:]))
