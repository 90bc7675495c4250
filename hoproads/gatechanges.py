"""Neighbouring gates, and neighbouring cars, exchanged, so that all later times stay."""

from hoproads.errors import InvalidSequence
from hoproads.plain import is_integer
from hoproads.waits import check_car, check_gate, check_waits


def turned(waits):
    """The waits with cars in the place of gates, and gates in that of cars."""
    return tuple([tuple([row[gate] for row in waits]) for gate in range(len(waits[0]))])


def greatest_sums(former, latter):
    """The list, for each car, of the greatest sum by which two neighbouring gates are exchanged."""
    many = len(former)
    found = []
    for car in range(many):
        sums = [sum(latter) + former[(car + 1) % many]]
        for more in range(2, many + 1):
            sums.append(sums[-1] + former[(car + more) % many] - latter[(car + more - 1) % many])
        found.append(max([int(one) for one in sums]))
    return found


def pair_exchanged(former, latter):
    """The pair of the waits of all cars at two neighbouring gates behind their exchange."""
    sums = greatest_sums(former, latter)
    # how much each sum is less than the one ahead of it, where the last one is ahead of the first one
    falls = [sums[car - 1] - sums[car] for car in range(len(sums))]
    return (tuple([wait + fall for wait, fall in zip(latter, falls)]),
            tuple([wait - fall for wait, fall in zip(former, falls)]))


def rows_exchanged(rows, at):
    """Rows of waits with a row and the next one exchanged."""
    return rows[:at] + pair_exchanged(rows[at], rows[at + 1]) + rows[at + 2:]


def gates_exchanged(waits, gate):
    """The waits with a gate and the next one exchanged."""
    check_waits(waits)
    check_gate(gate, len(waits[0]) - 1)
    return turned(rows_exchanged(turned(waits), gate))


def cars_exchanged(waits, car):
    """The waits with a car and the next one exchanged."""
    check_waits(waits)
    check_car(car, len(waits) - 1)
    return rows_exchanged(waits, car)


def check_sequence(many, order):
    """Raise InvalidSequence for what is not a tuple of all numbers from 0 to less than so many, each once."""
    if not isinstance(order, tuple) or len(order) != many or not all([is_integer(one) for one in order]):
        raise InvalidSequence("a tuple of as many numbers is asked for")
    if not all([at in order for at in range(many)]):
        raise InvalidSequence("all numbers are asked for, each once")


def rows_led(rows, order):
    """Rows of waits behind exchanges of neighbours by which they come to stand in an order."""
    left = rows
    numbers = list(range(len(rows)))
    for place, number in enumerate(order):
        # it goes ahead past those that stand behind it in the order alone, so past each just once
        for at in range(numbers.index(number) - 1, place - 1, -1):
            left = rows_exchanged(left, at)
            numbers[at], numbers[at + 1] = numbers[at + 1], numbers[at]
    return left


def gates_led(waits, order):
    """The waits behind exchanges of gates by which the totals of these come to stand in an order."""
    check_waits(waits)
    check_sequence(len(waits[0]), order)
    return turned(rows_led(turned(waits), order))


def cars_led(waits, order):
    """The waits behind exchanges of cars by which the totals of these come to stand in an order."""
    check_waits(waits)
    check_sequence(len(waits), order)
    return rows_led(waits, order)


def totals_of(waits):
    """The pair of the tuples of the totals of all cars, and of all gates."""
    check_waits(waits)
    return (tuple([sum(row) for row in waits]), tuple([sum(row) for row in turned(waits)]))
