"""Longest ways, slacks and ways at once: [41], [82], and the guarantees on them in [3]."""

import itertools
import unittest

from hoproads.errors import InvalidNumber, InvalidWaits
from hoproads.gatechanges import cars_exchanged, gates_exchanged
from hoproads.longways import is_longest, longest_way, slacks_of, sure_pairs, ways_sum
from hoproads.waits import last_time
from tests.gates import (EMPTY, FULL, LONG, MOST, NONE, SEVEN, SIX, SOME_WAITS, TALL, V, X, chance_waits, small_waits,
                         sum_told, ways_told)
from tests.support import BIG, STRAYS, check_arguments, check_error, check_too_many, wrong_numbers
from tests.test_waits import NO_WAITS

SMALL = (small_waits(2, 2, 2) + small_waits(2, 3, 1) + small_waits(3, 2, 1) + chance_waits(60, 4, 4)
         + chance_waits(30, 4, 4, 2) + [V, X, NONE, MOST, LONG, TALL])
WAY = ((0, 0), (1, 0), (1, 1), (2, 1))

NO_WAYS = STRAYS + [
    (), ((0, 0),), WAY[:3], WAY[1:], WAY[::-1], WAY + ((2, 2),), list(WAY), WAY[:2] + ([1, 1], (2, 1)),
    ((0, 0), (0, 1), (1, 1), (2, 1)), ((0, 0), (1, 0), (2, 0), (2, 1)), ((0, 0), (1, 0), (1, 0), (2, 1)),
    ((0, 0), (1, 1), (1, 1), (2, 1)), ((0, 0), (1, 0), (2, 1), (2, 1)), ((1, 0), (1, 0), (1, 1), (2, 1)),
    ((0, 0), (1, 0), (1, 1), (2, True)), ((False, 0),) + WAY[1:], ((0, 0), (1, 0), (1, 1), (3, 1)),
    ((0, 0), (1, 0), (1, 1), (1, 2)), ((0, 0), (1, 0), (1, 1), (2, 1, 0)), ((0, 0), (1, 0), (1, 1), (2,)),
    ((0, 0), (1, 0), (1, 1), None), ((0, 0), (1, 0), (1, 1), "21"), ((0, 0), (1, 0), (1, 1), ("2", 1)),
    ((0, -1), (0, 0), (1, 0), (1, 1)), ((0, 0), (1, 0), (2, 0), (3, 0)), ((0, 0), (0, 1), (0, 2), (1, 2)),
    ((0, 0), (0, 1), (1, 1), (1, 2)), ((-1, 0), (0, 0), (1, 0), (1, 1)), ((0, 0), (1, 0), (1, 1), (2, BIG)), ((0, 0), (0, -1), (1, -1), (1, 0)),
]


def longest_told(waits):
    ways = ways_told(len(waits), len(waits[0]))
    most = max(sum_told(waits, way) for way in ways)
    return [way for way in ways if sum_told(waits, way) == most]


def ways_sum_told(waits, many):
    """The greatest sum of so many ways at once, out of all choices of ways without a common pair."""
    cars, gates = len(waits), len(waits[0])
    found = [((), 0)]
    for at in range(many):
        ways = ways_told(cars, gates, (0, at), (cars - 1, gates - many + at))
        found = [(pairs + way, total + sum_told(waits, way)) for pairs, total in found for way in ways
                 if not set(pairs) & set(way)]
    return max(total for _, total in found)


class Longest(unittest.TestCase):
    def test_ways(self):
        for waits in SMALL:
            self.assertIn(longest_way(waits), longest_told(waits))
        for waits in SOME_WAITS:
            way = longest_way(waits)
            self.assertEqual(sum_told(waits, way), last_time(waits))
            self.assertIs(is_longest(waits, way), True)

    def test_all_ways(self):
        for waits in SMALL:
            told = longest_told(waits)
            for way in ways_told(len(waits), len(waits[0])):
                self.assertIs(is_longest(waits, way), way in told)
                self.assertIs(is_longest(waits, list(way)), False)
                self.assertIs(is_longest(waits, way[::-1]), len(way) == 1)

    def test_what_is_none(self):
        for value in NO_WAYS:
            self.assertIs(is_longest(V, value), False, value)
        self.assertIs(is_longest(V, WAY), True)
        # where all waits are 0, all ways are longest, and what is none is no way
        nothing = ((0, 0),) * 3
        ways = [repr(way) for way in ways_told(3, 2)]
        for value in NO_WAYS + [((0, 0), (0, 0), (1, 0), (1, 1)), ((0, 0), (1, 0), (2, 0), (2, 0)), ((0, 1), (1, 1), (2, 1), (2, 1))]:
            self.assertIs(is_longest(nothing, value), repr(value) in ways, value)
        # whatever the way, all waits are 0
        self.assertIs(is_longest(EMPTY, tuple((0, gate) for gate in range(12)) + tuple((car, 11) for car in range(1, 12))), True)
        self.assertIs(is_longest(MOST, ((0, 0),)), True)
        self.assertIs(is_longest(MOST, ((0, False),)), False)

    def test_slacks(self):
        for waits in SMALL:
            ways = ways_told(len(waits), len(waits[0]))
            most = max(sum_told(waits, way) for way in ways)
            told = tuple(tuple(most - max(sum_told(waits, way) for way in ways if (car, gate) in way)
                               for gate in range(len(waits[0]))) for car in range(len(waits)))
            self.assertEqual(slacks_of(waits), told)

    def test_sure_pairs(self):
        for waits in SMALL:
            told = sorted(set.intersection(*[set(way) for way in longest_told(waits)]))
            self.assertEqual(sure_pairs(waits), told)
        self.assertEqual(sure_pairs(EMPTY), [(0, 0), (11, 11)])
        self.assertEqual(sure_pairs(LONG), [(0, gate) for gate in range(12)])
        self.assertEqual(slacks_of(EMPTY), EMPTY)
        sure_pairs(LONG).clear()
        self.assertEqual(len(sure_pairs(LONG)), 12)

    def test_many_pairs(self):
        slacks = slacks_of(FULL)
        way = longest_way(FULL)
        self.assertTrue(all(slacks[car][gate] == 0 for car, gate in way))
        self.assertTrue(all(pair in way for pair in sure_pairs(FULL)))


class AtOnce(unittest.TestCase):
    def test_all_choices(self):
        for waits in SMALL:
            if len(waits[0]) <= 6:
                for many in range(1, min(len(waits), len(waits[0])) + 1):
                    self.assertEqual(ways_sum(waits, many), ways_sum_told(waits, many))

    def test_more_cars(self):
        for waits in chance_waits(8, 6, 4):
            for many in range(1, min(len(waits), len(waits[0]), 3) + 1):
                self.assertEqual(ways_sum(waits, many), ways_sum_told(waits, many))

    def test_one_way_and_as_many_as_there_are(self):
        for waits in SOME_WAITS + chance_waits(20, 12, 6):
            if len(waits[0]) <= 6:
                self.assertEqual(ways_sum(waits, 1), last_time(waits))
                if len(waits) >= len(waits[0]):
                    self.assertEqual(ways_sum(waits, len(waits[0])), sum(map(sum, waits)))
                else:
                    # the ways can't leave out a pair, but those ahead of where they begin and behind where they end
                    self.assertLessEqual(ways_sum(waits, len(waits)), sum(map(sum, waits)))
        self.assertEqual(ways_sum(SIX, 6), sum(map(sum, SIX)))
        self.assertEqual(ways_sum(((1, 2, 3),) * 3, 3), 18)
        self.assertEqual(ways_sum(((9, 1, 1, 1), (1, 1, 1, 9)), 2), 24)

    def test_more_ways_have_a_greater_sum(self):
        sums = [ways_sum(SIX, many) for many in range(1, 7)]
        steps = [one - other for one, other in zip(sums, [0] + sums)]
        self.assertEqual(steps, sorted(steps, reverse=True))

    def test_they_stay_when_neighbours_are_exchanged(self):
        for waits in [SIX, V, X] + chance_waits(25, 5, 5):
            if len(waits[0]) <= 6:
                sums = [ways_sum(waits, many) for many in range(1, min(len(waits), len(waits[0])) + 1)]
                changed = [gates_exchanged(waits, gate) for gate in range(len(waits[0]) - 1)]
                changed += [cars_exchanged(waits, car) for car in range(len(waits) - 1)]
                for other in changed:
                    self.assertEqual([ways_sum(other, many) for many in range(1, len(sums) + 1)], sums)

    def test_7_gates_and_more(self):
        for waits in (SEVEN, FULL, LONG, EMPTY):
            for many in {1, min(len(waits), len(waits[0]))}:
                check_too_many(self, 6, ways_sum, waits, many)
            for many in (0, min(len(waits), len(waits[0])) + 1, True, None):
                check_error(self, InvalidNumber, ways_sum, (waits, many))


class Wrong(unittest.TestCase):
    def test_errors_in_order(self):
        for good in (V, ((0,),), FULL):
            waits = (good, InvalidWaits, NO_WAITS)
            for function in (longest_way, slacks_of, sure_pairs):
                check_arguments(self, function, waits)
            check_arguments(self, is_longest, waits, (WAY, None, NO_WAYS))
        for waits, most in ((V, 2), (SIX, 6), (((1, 2, 3, 4), (5, 6, 7, 8)), 2), (TALL, 1)):
            for many in (1, most):
                check_arguments(self, ways_sum, (waits, InvalidWaits, NO_WAITS), (many, InvalidNumber, wrong_numbers(1, most)))


if __name__ == "__main__":
    unittest.main()
