"""Steady shares of wheels, by how many queue lines they have."""

from hoproads.errors import InvalidShares
from hoproads.plain import check_most, reduced, times, total_of
from hoproads.queuelines import count_queue_lines, counts_by_wheel
from hoproads.shares import are_parts_of_one
from hoproads.wheels import (MOST_PLACES_OF_LISTS, all_wheels, check_counts, check_sort, check_wheel, counts_of,
                             hop_places, sources_of)


def share_of_wheel(wheel):
    """The steady share of a wheel."""
    check_wheel(wheel)
    check_most(len(wheel), MOST_PLACES_OF_LISTS)
    counts = counts_of(wheel)
    return reduced(counts_by_wheel(counts)[wheel], count_queue_lines(counts))


def steady_wheels(counts):
    """The tuple of the steady shares of all wheels with some counts, in ascending order of the wheels."""
    check_counts(counts)
    check_most(sum(counts), MOST_PLACES_OF_LISTS)
    ways = counts_by_wheel(counts)
    whole = count_queue_lines(counts)
    return tuple([reduced(ways[wheel], whole) for wheel in all_wheels(counts)])


def are_steady_wheels(counts, shares):
    """Whether shares of all wheels with some counts are steady."""
    check_counts(counts)
    check_most(sum(counts), MOST_PLACES_OF_LISTS)
    wheels = all_wheels(counts)
    if not are_parts_of_one(shares, len(wheels)):
        raise InvalidShares("a share for each wheel is asked for, which come to 1")
    by_wheel = {wheel: share for wheel, share in zip(wheels, shares)}
    going = [times(by_wheel[wheel], (len(hop_places(wheel)), 1)) for wheel in wheels]
    coming = [total_of([by_wheel[source] for source in sources_of(wheel)]) for wheel in wheels]
    return going == coming


def pair_share(counts, one, other):
    """The steady share, added, of all wheels with a sort in the place 0, and another one in the place 1."""
    check_counts(counts)
    check_sort(one, len(counts))
    check_sort(other, len(counts))
    check_most(sum(counts), MOST_PLACES_OF_LISTS)
    ways = [many for wheel, many in counts_by_wheel(counts).items() if wheel[:2] == (one, other)]
    return reduced(sum(ways), count_queue_lines(counts))


def sort_flow(counts, sort):
    """The steady share, added, of all wheels in which a car of a sort or a lesser one hops at the place 0."""
    check_counts(counts)
    check_sort(sort, len(counts) - 1)
    places = sum(counts)
    cars = sum(counts[:sort])
    # these cars, as one sort, hop past all others, as one sort, in whatever wheel of two sorts alike
    return reduced(cars * (places - cars), places * (places - 1))
