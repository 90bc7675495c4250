"""Wheels: what is in the places of a ring, by sorts, and its hops."""

from math import factorial

from hoproads.errors import InvalidCounts, InvalidPlace, InvalidSort, InvalidWheel, TooFew
from hoproads.plain import ascending, check_most, check_number, is_from_to, is_integer

FEWEST_PLACES = 2
MOST_PLACES = 8
FEWEST_SORTS = 2
MOST_SORTS = 5
FEWEST_SORTS_TO_JOIN = 3
MOST_TURN = 1000
MOST_PLACES_OF_LISTS = 6


def greatest_sort(wheel):
    """The greatest sort of a wheel."""
    return max([int(sort) for sort in wheel])


def is_wheel(value):
    """Whether any value is a wheel."""
    if not isinstance(value, tuple) or not FEWEST_PLACES <= len(value) <= MOST_PLACES:
        return False
    if not all([is_from_to(sort, 1, MOST_SORTS) for sort in value]):
        return False
    sorts = greatest_sort(value)
    return sorts >= FEWEST_SORTS and all([sort in value for sort in range(1, sorts)])


def check_wheel(wheel):
    """Raise InvalidWheel for what is no wheel."""
    if not is_wheel(wheel):
        raise InvalidWheel("a wheel of 2 to 8 places is asked for, with 2 to 5 sorts")


def are_counts(value):
    """Whether any value is the counts of a wheel."""
    if not isinstance(value, tuple) or not FEWEST_SORTS <= len(value) <= MOST_SORTS:
        return False
    return all([is_from_to(many, 1, MOST_PLACES) for many in value]) and sum(value) <= MOST_PLACES


def check_counts(counts):
    """Raise InvalidCounts for what is not the counts of a wheel."""
    if not are_counts(counts):
        raise InvalidCounts("2 to 5 integers from 1 on are asked for, at most 8 in all")


def check_sort(sort, most):
    """Raise InvalidSort for what is no sort from 1 to the greatest one that is let."""
    if not is_from_to(sort, 1, most):
        raise InvalidSort(f"a sort from 1 to {most} is asked for")


def counts_of(wheel):
    """The counts of a wheel."""
    return tuple([wheel.count(sort) for sort in range(1, greatest_sort(wheel) + 1)])


def sort_counts(wheel):
    """The counts of a wheel."""
    check_wheel(wheel)
    return counts_of(wheel)


def place_behind(things, place):
    """The next place on a ring, which is the first one behind the last one."""
    return (place + 1) % len(things)


def exchanged(things, place):
    """The things on a ring with those in a place and in the next one exchanged."""
    behind = place_behind(things, place)
    found = list(things)
    found[place], found[behind] = things[behind], things[place]
    return tuple(found)


def hop_places(wheel):
    """The ascending list of all places at which there is a hop."""
    return [place for place, sort in enumerate(wheel) if sort < wheel[place_behind(wheel, place)]]


def wheel_hops(wheel):
    """The ascending list of all places at which there is a hop."""
    check_wheel(wheel)
    return hop_places(wheel)


def wheel_hopped(wheel, place):
    """The wheel behind the hop at a place."""
    check_wheel(wheel)
    if not is_integer(place) or place not in hop_places(wheel):
        raise InvalidPlace("a place at which there is a hop is asked for")
    return exchanged(wheel, place)


def sources_of(wheel):
    """The list of all wheels from which a hop leads to a wheel."""
    return [exchanged(wheel, place) for place, sort in enumerate(wheel) if sort > wheel[place_behind(wheel, place)]]


def wheel_sources(wheel):
    """The ascending list of all wheels from which a hop leads to a wheel."""
    check_wheel(wheel)
    return ascending(sources_of(wheel))


def wheel_turned(wheel, steps):
    """The wheel in which all things stand so many places on."""
    check_wheel(wheel)
    check_number(steps, -MOST_TURN, MOST_TURN)
    return tuple([wheel[(place - steps) % len(wheel)] for place in range(len(wheel))])


def wheel_mirrored(wheel):
    """The wheel read from its last place, with its sorts from the greatest one down."""
    check_wheel(wheel)
    sorts = greatest_sort(wheel)
    return tuple([sorts + 1 - sort for sort in wheel[::-1]])


def sorts_joined(wheel, sort):
    """The wheel in which a sort and the next one are one sort."""
    check_wheel(wheel)
    check_sort(sort, greatest_sort(wheel) - 1)
    if greatest_sort(wheel) < FEWEST_SORTS_TO_JOIN:
        raise TooFew("a wheel of three sorts at least is asked for")
    return tuple([thing - int(thing > sort) for thing in wheel])


def all_wheels(counts):
    """The ascending list of all tuples of sorts with so many of each."""
    found = [()]
    for _ in range(sum(counts)):
        found = [wheel + (sort,) for wheel in found for sort, many in enumerate(counts, 1) if wheel.count(sort) < many]
    return found


def wheels_with(counts):
    """The ascending list of all wheels with some counts."""
    check_counts(counts)
    check_most(sum(counts), MOST_PLACES_OF_LISTS)
    return all_wheels(counts)


def count_wheels(counts):
    """How many wheels with some counts there are."""
    check_counts(counts)
    ways = factorial(sum(counts))
    for many in counts:
        ways = ways // factorial(many)
    return ways
