"""Longest ways through waits, slacks, and ways at once."""

from hoproads.plain import check_most, check_number, is_from_to
from hoproads.waits import check_waits, times_by

MOST_GATES_OF_WAYS = 6


def way_back(some_times):
    """The list of the pairs of a longest way, from the last one to the first one, by the times."""
    car = len(some_times) - 1
    gate = len(some_times[0]) - 1
    pairs = [(car, gate)]
    while car + gate > 0:
        # the way came along whoever passed later, of the car ahead here and this car at the gate before
        if gate == 0 or (car > 0 and some_times[car - 1][gate] >= some_times[car][gate - 1]):
            car = car - 1
        else:
            gate = gate - 1
        pairs.append((car, gate))
    return pairs


def longest_way(waits):
    """Any longest way."""
    check_waits(waits)
    return tuple(way_back(times_by(waits))[::-1])


def is_pair_of(waits, value):
    """Whether any value is a pair of a car and a gate."""
    if not isinstance(value, tuple) or len(value) != 2:
        return False
    return is_from_to(value[0], 0, len(waits) - 1) and is_from_to(value[1], 0, len(waits[0]) - 1)


def is_way(waits, value):
    """Whether any value is a way from the first car at the first gate to the last one at the last one."""
    if not isinstance(value, tuple) or len(value) != len(waits) + len(waits[0]) - 1:
        return False
    if not all([is_pair_of(waits, pair) for pair in value]) or value[0] != (0, 0):
        return False
    steps = [(value[at][0] - value[at - 1][0], value[at][1] - value[at - 1][1]) for at in range(1, len(value))]
    return all([step in ((0, 1), (1, 0)) for step in steps])


def is_longest(waits, value):
    """Whether any value is a longest way."""
    check_waits(waits)
    if not is_way(waits, value):
        return False
    return sum([waits[car][gate] for car, gate in value]) == times_by(waits)[-1][-1]


def turned_about(rows):
    """A tuple of tuples with all rows, and all items of each, from the last to the first."""
    return tuple([row[::-1] for row in rows[::-1]])


def slacks_by(waits):
    """The tuple of tuples of the slacks of all pairs."""
    ahead = times_by(waits)
    behind = turned_about(times_by(turned_about(waits)))
    longest = ahead[-1][-1]
    # the wait of the pair itself is in both sums
    return tuple([tuple([longest - here - there + wait for here, there, wait in zip(one, other, row)])
                  for one, other, row in zip(ahead, behind, waits)])


def slacks_of(waits):
    """The tuple of tuples of the slacks of all pairs."""
    check_waits(waits)
    return slacks_by(waits)


def sure_pairs(waits):
    """The ascending list of the pairs that lie on each longest way."""
    check_waits(waits)
    tight = [(car, gate) for car, row in enumerate(slacks_by(waits)) for gate, slack in enumerate(row) if slack == 0]
    # each way has one pair for each sum of car and gate, and each pair without slack lies on a longest way
    sums = [car + gate for car, gate in tight]
    return [pair for pair, both in zip(tight, sums) if sums.count(both) == 1]


def places_on(places, gates):
    """The list of all tuples of gates to which ways go on from some, at one car, without a common pair."""
    found = [()]
    ends = places[1:] + (gates,)
    for place, end in zip(places, ends):
        found = [led + (gate,) for led in found for gate in range(place, end)]
    return found


def sum_on(row, places, led):
    """The sum of the waits of a car at the gates from each place on to where it is led."""
    return sum([sum(row[place:gate + 1]) for place, gate in zip(places, led)])


def led_by(sums, row):
    """The dict from tuples of gates to the greatest sums of ways to them, led on by the waits of a car."""
    found = {}
    for places, ahead in sums.items():
        for led in places_on(places, len(row)):
            total = ahead + sum_on(row, places, led)
            found[led] = max(int(found.get(led, 0)), total)
    return found


def ways_sum(waits, many):
    """The greatest sum of so many ways at once."""
    check_waits(waits)
    gates = len(waits[0])
    check_number(many, 1, min(len(waits), gates))
    check_most(gates, MOST_GATES_OF_WAYS)
    sums = {tuple(range(many)): 0}
    for row in waits:
        sums = led_by(sums, row)
    return sums[tuple(range(gates - many, gates))]
