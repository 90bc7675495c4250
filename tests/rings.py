"""Wheels, queue lines and bells straight from their definitions, for the tests to compare with."""

import itertools


def is_wheel_told(wheel):
    return set(wheel) == set(range(1, max(wheel) + 1)) and 2 <= max(wheel) <= 5


def wheels_told(places):
    """The ascending list of all wheels of so many places, out of all tuples of sorts."""
    return [wheel for wheel in itertools.product(range(1, 6), repeat=places) if is_wheel_told(wheel)]


def counts_told(wheel):
    return tuple(wheel.count(sort) for sort in range(1, max(wheel) + 1))


def all_counts(places):
    """The list of all counts of wheels of so many places."""
    found = []
    for sorts in range(2, min(places, 5) + 1):
        found.extend(counts for counts in itertools.product(range(1, places + 1), repeat=sorts) if sum(counts) == places)
    return found


def wheels_of(counts):
    """The ascending list of all wheels with some counts."""
    things = [sort for sort, many in enumerate(counts, 1) for _ in range(many)]
    return sorted(set(itertools.permutations(things)))


def hops_told(wheel):
    """The list of the pairs of a place at which there is a hop, and of the wheel behind it."""
    found = []
    for place in range(len(wheel)):
        behind = (place + 1) % len(wheel)
        if wheel[place] < wheel[behind]:
            things = list(wheel)
            things[place], things[behind] = things[behind], things[place]
            found.append((place, tuple(things)))
    return found


def served_told(wheel, line, turn=0):
    """The wheel of queue lines of a wheel, and of a line behind them, by [37]; turn tells the order in each sort."""
    places = len(wheel)
    sorts = max(wheel)
    found = {}
    for sort in range(1, sorts):
        things = [place for place in range(places) if wheel[place] == sort]
        turned = things[turn % len(things):] + things[:turn % len(things)]
        for place in turned[::-1] if turn % 2 else turned:
            walk = [(place - steps) % places for steps in range(places)]
            found[next(at for at in walk if line[at] == 1 and at not in found)] = sort
    return tuple(found.get(at, sorts if line[at] == 1 else sorts + 1) for at in range(places))


def wheel_told(lines, turn=0):
    """The wheel of queue lines."""
    wheel = tuple(1 if item == 1 else 2 for item in lines[0])
    for line in lines[1:]:
        wheel = served_told(wheel, line, turn)
    return wheel


def queue_lines_told(counts):
    """The ascending list of all queue lines with some counts."""
    places = sum(counts)
    ones = list(itertools.accumulate(counts))[:-1]
    choices = [[line for line in itertools.product((0, 1), repeat=places) if sum(line) == many] for many in ones]
    return sorted(itertools.product(*choices))


def rung_told(lines, place):
    """The queue lines behind a bell, by [38]."""
    found = [list(line) for line in lines]
    at = place
    for line in reversed(found):
        behind = (at + 1) % len(line)
        there_was_a_car = line[at] == 1
        if there_was_a_car and line[behind] == 0:
            line[at], line[behind] = 0, 1
        if not there_was_a_car:
            at = (at - 1) % len(line)
    return tuple(tuple(line) for line in found)
