"""Roads without hops back, told by their lines: counts by ends, whole weights, flows and shares."""

from math import comb

from hoproads.errors import InvalidEnds
from hoproads.lines import count_by_ends
from hoproads.plain import added, check_most, check_number, divided, is_below, less, times, total_of
from hoproads.roads import check_place, check_places, check_row, is_rate
from hoproads.trailweights import NOUGHT, ONE, ends_at, power_at
from hoproads.weights import value_at

MOST_PLACES_OF_A_COUNT = 200
MOST_NUMBER = 200
MOST_FAR_PLACES = 60
MOST_PLACES_OF_A_CAR = 30
HALF = (1, 2)
QUARTER = (1, 4)


def are_ends(value):
    """Whether any value is ends: a pair (in, out) of fractions."""
    if not isinstance(value, tuple) or len(value) != 2:
        return False
    return is_rate(value[0], 1) and is_rate(value[1], 1)


def check_ends(ends):
    """Raise InvalidEnds for what is no ends."""
    if not are_ends(ends):
        raise InvalidEnds("ends are asked for: two fractions, in and out")


def count_alike(places, both):
    """How many lines of so many places have told zeros and a told last height that come to some sum."""
    if not 1 <= both <= places:
        return 0
    # it makes no difference how the sum is parted, so they are counted as lines of just so many zeros
    return both * comb(2 * places - 1 - both, places - 1) // places


def count_ends(places, zeros, last):
    """How many lines of so many places have so many zeros, and such a last height."""
    check_places(places, MOST_PLACES_OF_A_COUNT)
    check_number(zeros, 0, MOST_NUMBER)
    check_number(last, 0, MOST_NUMBER)
    return count_alike(places, zeros + last)


def value_by_ends(ends, counts):
    """The sum of a ** zeros * b ** last, times how many, by ends, of a list of triples (zeros, last, many)."""
    return value_at(ends + (NOUGHT,), [(0, zeros, last, many) for zeros, last, many in counts])


def whole_by_ends(ends, places):
    """The value of the whole weight of a road of so many places, also of none."""
    if places == 0:
        return ONE
    sums = [(both, count_alike(places, both)) for both in range(1, places + 1)]
    return value_by_ends(ends, [(zeros, both - zeros, many) for both, many in sums for zeros in range(both + 1)])


def oneway_whole(ends, far_places):
    """The value of the whole weight of a road by ends."""
    check_ends(ends)
    check_places(far_places, MOST_FAR_PLACES)
    return whole_by_ends(ends, far_places)


def oneway_flow(ends, far_places):
    """How many cars come in, on the average, as time goes on."""
    check_ends(ends)
    check_places(far_places, MOST_FAR_PLACES)
    return divided(whole_by_ends(ends, far_places - 1), whole_by_ends(ends, far_places))


def endless_flow(ends):
    """What the flow goes to, as roads become longer and longer."""
    check_ends(ends)
    entering, leaving = ends
    if is_below(entering, leaving) and is_below(entering, HALF):
        return times(entering, less(ONE, entering))
    return times(leaving, less(ONE, leaving)) if is_below(leaving, HALF) else QUARTER


def oneway_share(ends, row):
    """The steady share of a row."""
    check_ends(ends)
    check_row(row)
    counts = [(zeros, last, many) for (zeros, last), many in count_by_ends(row).items()]
    return divided(value_by_ends(ends, counts), whole_by_ends(ends, len(row)))


def with_car(weights):
    """The weights of all lines by last heights, led on by a car."""
    return [NOUGHT] + weights


def with_gap(weights, zero_weight):
    """The weights of all lines by last heights, led on by a free place; each zero has a weight."""
    found = []
    total = NOUGHT
    # a height comes of each one ahead that is not less
    for weight in weights[::-1]:
        total = added(total, weight)
        found.append(total)
    return [times(found[-1], zero_weight)] + found[-2::-1] + [NOUGHT]


def oneway_car(ends, far_places, place):
    """The steady share of all rows, added, in which a car stands in a place."""
    check_ends(ends)
    check_places(far_places, MOST_FAR_PLACES)
    check_place(far_places, place)
    check_most(far_places, MOST_PLACES_OF_A_CAR)
    zero_weight, last_weight = ends_at(ends)
    weights = [ONE]
    for at in range(far_places):
        gaps = [NOUGHT] * (len(weights) + 1) if at == place else with_gap(weights, zero_weight)
        weights = [added(car, gap) for car, gap in zip(with_car(weights), gaps)]
    value = total_of([times(weight, power_at(last_weight, height)) for height, weight in enumerate(weights)])
    return divided(value, whole_by_ends(ends, far_places))
