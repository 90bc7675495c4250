"""Waits of cars at gates, the times at which they pass them, and the road of these passings."""

from hoproads.errors import InvalidCar, InvalidGate, InvalidTime, InvalidTimes, InvalidWaits
from hoproads.plain import ascending, is_from_to, is_integer

MOST_CARS = 12
MOST_GATES = 12
MOST_IN_ALL = 10 ** 9
MOST_TIME = 10 ** 12


def is_filled(value):
    """Whether any value is a tuple, one item for each car, of tuples of as many integers, one for each gate."""
    if not isinstance(value, tuple) or not 1 <= len(value) <= MOST_CARS:
        return False
    if not all([isinstance(row, tuple) and 1 <= len(row) <= MOST_GATES for row in value]):
        return False
    return all([len(row) == len(value[0]) and all([is_integer(item) for item in row]) for row in value])


def are_waits(value):
    """Whether any value is waits."""
    if not is_filled(value):
        return False
    if not all([wait >= 0 for row in value for wait in row]):
        return False
    return sum([sum(row) for row in value]) <= MOST_IN_ALL


def check_waits(waits):
    """Raise InvalidWaits for what is no waits."""
    if not are_waits(waits):
        raise InvalidWaits("waits are asked for: 1 to 12 tuples of 1 to 12 integers, at most 10 ** 9 in all")


def check_gate(gate, gates):
    """Raise InvalidGate for what is no gate of so many."""
    if not is_from_to(gate, 0, gates - 1):
        raise InvalidGate("a gate is asked for, by its number")


def check_car(car, cars):
    """Raise InvalidCar for what is no car of so many."""
    if not is_from_to(car, 0, cars - 1):
        raise InvalidCar("a car is asked for, by its number")


def check_time(time):
    """Raise InvalidTime for what is no time."""
    if not is_from_to(time, 0, MOST_TIME):
        raise InvalidTime("an integer from 0 to 10 ** 12 is asked for")


def times_by(waits):
    """The tuple of tuples of the times of all cars at all gates."""
    found = []
    ahead = (0,) * len(waits[0])
    for row in waits:
        here = [0]
        for before, wait in zip(ahead, row):
            here.append(max(int(before), here[-1]) + wait)
        ahead = tuple(here[1:])
        found.append(ahead)
    return tuple(found)


def begins_by(some_times):
    """The tuple of tuples of when each car begins at each gate, by the times."""
    found = []
    ahead = (0,) * len(some_times[0])
    for row in some_times:
        found.append(tuple([max(int(before), passed) for before, passed in zip(ahead, (0,) + row)]))
        ahead = row
    return tuple(found)


def waits_by(some_times):
    """The tuple of tuples of integers that are the waits, if there are any, of some times."""
    return tuple([tuple([over - begun for over, begun in zip(row, begins)])
                  for row, begins in zip(some_times, begins_by(some_times))])


def times_of(waits):
    """The tuple of tuples of the times of all cars at all gates."""
    check_waits(waits)
    return times_by(waits)


def begins_of(waits):
    """The tuple of tuples of when each car begins at each gate."""
    check_waits(waits)
    return begins_by(times_by(waits))


def last_time(waits):
    """The time of the last car at the last gate."""
    check_waits(waits)
    return times_by(waits)[-1][-1]


def are_times(value):
    """Whether any value is the times of some waits."""
    return is_filled(value) and are_waits(waits_by(value))


def waits_of(times):
    """The waits of some times."""
    if not are_times(times):
        raise InvalidTimes("the times of some waits are asked for")
    return waits_by(times)


def passings_by(waits):
    """The ascending list of all triples (time, car, gate), one for each passing."""
    some_times = times_by(waits)
    return ascending([(time, car, gate) for car, row in enumerate(some_times) for gate, time in enumerate(row)])


def passings(waits):
    """The ascending list of all triples (time, car, gate), one for each passing."""
    check_waits(waits)
    return passings_by(waits)


def passed_by(waits, time):
    """The tuple of how many gates each car has passed by a time."""
    return tuple([sum([int(passed <= time) for passed in row]) for row in times_by(waits)])


def hops_by(waits, time):
    """The tuple of how many gates each car has passed by a time."""
    check_waits(waits)
    check_time(time)
    return passed_by(waits, time)


def place_of(waits, car, gates):
    """The place of a car on the road of the passings, behind so many gates."""
    return len(waits) - 1 - car + gates


def road_at(waits, time):
    """The row of the road of the passings at a time."""
    check_waits(waits)
    check_time(time)
    items = [0] * (len(waits) + len(waits[0]))
    for car, gates in enumerate(passed_by(waits, time)):
        items[place_of(waits, car, gates)] = 1
    return tuple(items)


def line_at(waits, gate, time):
    """The ascending list of the cars that have passed the gate before by a time, but not this one."""
    check_waits(waits)
    check_gate(gate, len(waits[0]))
    check_time(time)
    return [car for car, gates in enumerate(passed_by(waits, time)) if gates == gate]


def hop_words(waits):
    """The list of the hops of the road of the passings, in the order of the passings."""
    check_waits(waits)
    return [("on", place_of(waits, car, gate)) for time, car, gate in passings_by(waits)]
