"""Waits, times, ways and exchanges straight from their definitions, for the tests to compare with."""

import itertools
import random

# waits of one car or gate, of 12, all 0, with passings at the same time, and that come to 10 ** 9
V = ((1, 2), (3, 1), (0, 2))
X = ((2, 0, 1), (1, 3, 0))
MOST = ((10 ** 9,),)
SPREAD = ((10 ** 9 - 5, 0, 2), (0, 3, 0))
NONE = ((0, 0, 0), (0, 0, 0))
FULL = tuple(tuple((5 * car + 7 * gate) % 11 for gate in range(12)) for car in range(12))
LONG = (tuple(range(12)),)
TALL = tuple((car,) for car in range(12))
SIX = tuple(tuple((3 * car * car + 5 * gate + car * gate) % 13 for gate in range(6)) for car in range(12))
SEVEN = tuple(tuple((car * gate + 2 * gate) % 7 for gate in range(7)) for car in range(5))
EMPTY = ((0,) * 12,) * 12
SOME_WAITS = [V, X, MOST, SPREAD, NONE, FULL, LONG, TALL, SIX, SEVEN, EMPTY, ((0,),), ((5, 3),), ((4,), (4,))]


def small_waits(cars, gates, most):
    """The list of all waits of so many cars and gates, each of them at most so long."""
    rows = list(itertools.product(range(most + 1), repeat=gates))
    return list(itertools.product(rows, repeat=cars))


def chance_waits(many, cars, gates, most=20):
    """So many waits, of up to so many cars and gates."""
    chance = random.Random(cars * 100 + gates)
    found = []
    for _ in range(many):
        rows, columns = chance.randint(1, cars), chance.randint(1, gates)
        found.append(tuple(tuple(chance.randint(0, most) for _ in range(columns)) for _ in range(rows)))
    return found


def ways_told(cars, gates, start=(0, 0), end=None):
    """The list of all ways from a pair to another one."""
    end = (cars - 1, gates - 1) if end is None else end
    if start == end:
        return [(start,)]
    found = []
    for pair in ((start[0] + 1, start[1]), (start[0], start[1] + 1)):
        if pair[0] <= end[0] and pair[1] <= end[1]:
            found.extend((start,) + way for way in ways_told(cars, gates, pair, end))
    return found


def sum_told(waits, way):
    return sum(waits[car][gate] for car, gate in way)


def times_told(waits):
    """The times by [39], car by car and gate by gate: the table of when each begins and the one of when it passes."""
    begins, passes = {}, {}
    for car in range(len(waits)):
        for gate in range(len(waits[0])):
            begins[car, gate] = max(passes.get((car, gate - 1), 0), passes.get((car - 1, gate), 0))
            passes[car, gate] = begins[car, gate] + waits[car][gate]
    return tuple(tuple(tuple(table[car, gate] for gate in range(len(waits[0]))) for car in range(len(waits)))
                 for table in (begins, passes))


def turned(waits):
    return tuple(zip(*waits))


def exchanged_told(waits, gate):
    """The waits with a gate and the next one exchanged, by [42]."""
    many = len(waits)
    x = [row[gate] for row in waits]
    y = [row[gate + 1] for row in waits]

    def greatest(i):
        return max(sum(x[(i + t) % many] for t in range(1, s + 1)) + sum(y[(i + t) % many] for t in range(s, many + 1))
                   for s in range(1, many + 1))

    rows = []
    for i, row in enumerate(waits):
        former = y[i] + greatest(i - 1) - greatest(i)
        latter = x[i] + greatest(i) - greatest(i - 1)
        rows.append(row[:gate] + (former, latter) + row[gate + 2:])
    return tuple(rows)


NO_FILLED = [
    (), ((),), ((), ()), ((1, 2), (3,)), ((1,), (2, 3)), [(1, 2)], ([1, 2],), ((1, 2), [3, 4]), ((1, 2), ()), (1, 2),
    ((True,),), ((1, False),), ((None,),), (("1",),), ("1",), "12", ((1,), None), (((1,),),), ((1, (2,)),), ((1, [2]),),
    ((0,) * 13,), ((0,),) * 13, ((0,) * 13,) * 13, ((1,),) * 1000, ((1,) * 1000,), ((0,), (0,), (0, 0)), ((1, "2"),),
]
