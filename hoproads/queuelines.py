"""Queue lines, the wheels that they have, and the bells that lead them."""

from math import comb

from hoproads.errors import InvalidQueueLine, InvalidQueueLines
from hoproads.plain import ascending, check_most, is_from_to
from hoproads.roads import all_rows, check_place
from hoproads.wheels import (MOST_PLACES, MOST_PLACES_OF_LISTS, all_wheels, check_counts, check_wheel, counts_of,
                             exchanged, greatest_sort, place_behind)

FEWEST_PLACES = 2
MOST_LINES = 4


def is_queue_line(value, places):
    """Whether any value is a tuple of so many integers 0 or 1."""
    if not isinstance(value, tuple) or len(value) != places:
        return False
    return all([is_from_to(item, 0, 1) for item in value])


def are_queue_lines(value):
    """Whether any value is queue lines."""
    if not isinstance(value, tuple) or not 1 <= len(value) <= MOST_LINES or not isinstance(value[0], tuple):
        return False
    places = len(value[0])
    if not FEWEST_PLACES <= places <= MOST_PLACES or not all([is_queue_line(line, places) for line in value]):
        return False
    ones = [0] + [sum(line) for line in value] + [places]
    return all([ones[at - 1] < ones[at] for at in range(1, len(ones))])


def check_queue_lines(lines):
    """Raise InvalidQueueLines for what is no queue lines."""
    if not are_queue_lines(lines):
        raise InvalidQueueLines("1 to 4 tuples of 0 and 1 are asked for, each with more ones than the one ahead")


def served_by(wheel, line):
    """The wheel of queue lines of a wheel, perhaps one of a single sort, with a line behind them."""
    sorts = greatest_sort(wheel)
    found = [sorts if item == 1 else sorts + 1 for item in line]
    for sort in range(1, sorts):
        for place, thing in enumerate(wheel):
            if thing == sort:
                taken = place
                # things with places have a lesser sort by now, so what still has just this one is left
                while found[taken] != sorts:
                    taken = (taken - 1) % len(wheel)
                found[taken] = sort
    return tuple(found)


def wheel_of(lines):
    """The wheel of queue lines."""
    check_queue_lines(lines)
    wheel = (1,) * len(lines[0])
    for line in lines:
        wheel = served_by(wheel, line)
    return wheel


def served(wheel, line):
    """The wheel of queue lines of a wheel of at most four sorts, with a line behind them."""
    check_wheel(wheel)
    cars = len(wheel) - wheel.count(greatest_sort(wheel))
    if not is_queue_line(line, len(wheel)) or not cars < sum(line) < len(wheel):
        raise InvalidQueueLine("a line with more ones than the wheel has cars is asked for, and with a 0")
    check_most(greatest_sort(wheel), MOST_LINES)
    return served_by(wheel, line)


def queue_lines_rung(lines, place):
    """The queue lines behind a bell at a place."""
    check_queue_lines(lines)
    check_place(len(lines[0]), place)
    found = []
    at = place
    for line in lines[::-1]:
        hops = line[at] > line[place_behind(line, at)]
        found.append(exchanged(line, at) if hops else line)
        if line[at] == 0:
            at = (at - 1) % len(line)
    return tuple(found[::-1])


def before_bell(line, place):
    """The list of the pairs of a line that a bell at a place leads to a line, and of where it rings ahead of it."""
    ahead = (place - 1) % len(line)
    behind = place_behind(line, place)
    if line[place] == 1:
        # a car with a free place behind it would have hopped
        return [(line, place)] if line[behind] == 1 else []
    stayed = [(line, ahead)]
    return stayed + [(exchanged(line, place), place)] if line[behind] == 1 else stayed


def rung_before(lines, place):
    """The list of all queue lines from which a bell at a place leads to some queue lines."""
    found = [((), place)]
    for line in lines[::-1]:
        found = [((before,) + rest, ahead) for rest, at in found for before, ahead in before_bell(line, at)]
    return [before for before, at in found]


def bells_to(lines):
    """The ascending list of the pairs (place, others) of a bell that leads other queue lines to some."""
    check_queue_lines(lines)
    places = len(lines[0])
    return ascending([(place, before) for place in range(places) for before in rung_before(lines, place)])


def count_queue_lines(counts):
    """How many queue lines there are with some counts."""
    check_counts(counts)
    ways = 1
    for sort in range(1, len(counts)):
        ways = ways * comb(sum(counts), sum(counts[:sort]))
    return ways


def lines_for(wheel):
    """The list of all queue lines of a wheel, () alone for one of a single sort."""
    sorts = greatest_sort(wheel)
    if sorts == 1:
        return [()]
    last = tuple([int(sort < sorts) for sort in wheel])
    counts = counts_of(wheel)
    fewer = counts[:-2] + (counts[-2] + counts[-1],)
    ahead = [some for some in all_wheels(fewer) if served_by(some, last) == wheel]
    return [lines + (last,) for some in ahead for lines in lines_for(some)]


def queue_lines_for(wheel):
    """The ascending list of all queue lines of a wheel."""
    check_wheel(wheel)
    check_most(len(wheel), MOST_PLACES_OF_LISTS)
    return ascending(lines_for(wheel))


def counts_by_wheel(counts):
    """The dict from all wheels with some counts to how many queue lines they have."""
    places = sum(counts)
    found = {(1,) * places: 1}
    for sort in range(1, len(counts)):
        ones = sum(counts[:sort])
        lines = [line for line in all_rows(places) if sum(line) == ones]
        led = {}
        for wheel, ways in found.items():
            for line in lines:
                behind = served_by(wheel, line)
                led[behind] = led.get(behind, 0) + ways
        found = led
    return found


def count_queue_lines_for(wheel):
    """How many queue lines of a wheel there are."""
    check_wheel(wheel)
    check_most(len(wheel), MOST_PLACES_OF_LISTS)
    return counts_by_wheel(counts_of(wheel))[wheel]
