"""Waits, times and the road of the passings: [39], [40], [80], [81], and the guarantees on them in [3]."""

import itertools
import unittest

from hoproads.errors import InvalidGate, InvalidTime, InvalidTimes, InvalidWaits
from hoproads.waits import (are_times, are_waits, begins_of, hop_words, hops_by, last_time, line_at, passings, road_at,
                            times_of, waits_of)
from tests.gates import (EMPTY, FULL, LONG, MOST, NO_FILLED, SOME_WAITS, SPREAD, TALL, V, chance_waits, small_waits,
                         sum_told, times_told, ways_told)
from tests.support import BIG, NO_INTEGERS, STRAYS, check_arguments, check_error, wrong_numbers

ALL_WAITS = SOME_WAITS + small_waits(2, 2, 2) + small_waits(3, 1, 1) + small_waits(1, 3, 1) + chance_waits(40, 6, 6)

NO_WAITS = STRAYS + NO_FILLED + [
    ((-1,),), ((0, 0), (0, -1)), ((10 ** 9 + 1,),), ((10 ** 9, 1),), ((10 ** 9,), (1,)), ((BIG,),), ((-BIG, BIG),),
    ((BIG, -BIG),), ((10 ** 9 - 5, 0, 2), (0, 4, 0)), ((10 ** 9,) * 12,) * 12, ((1, 2), (3, BIG)), ((2, -1),),
]
NO_TIMES = STRAYS + NO_FILLED + [
    ((-1,),), ((1, 0),), ((1,), (0,)), ((1, 3), (2, 2)), ((1, 3), (4, 3)), ((5, 5), (5, 4)), ((0, 0), (0, -1)),
    ((10 ** 9 + 1,),), ((0, 10 ** 9 + 1),), ((BIG,),), ((-BIG,),), ((1, 2), (3, BIG)),
    # waits of 10 ** 9 and of one more, of the car behind, in all
    ((10 ** 9, 10 ** 9), (10 ** 9, 10 ** 9 + 1)), ((1, 10 ** 9),) * 2 + ((2, 10 ** 9 + 1),),
]


class AreWaits(unittest.TestCase):
    def test_waits(self):
        for waits in ALL_WAITS:
            self.assertIs(are_waits(waits), True)
            self.assertIs(are_waits(list(waits)), False)
            self.assertIs(are_waits(tuple(list(row) for row in waits)), False)

    def test_what_is_none(self):
        for value in NO_WAITS:
            self.assertIs(are_waits(value), False, value)

    def test_the_bounds(self):
        self.assertIs(are_waits(((10 ** 9,),)), True)
        self.assertIs(are_waits(((10 ** 9 - 1,), (1,))), True)
        self.assertIs(are_waits(((10 ** 9 - 1,), (2,))), False)
        self.assertIs(are_waits(((0,) * 12,) * 12), True)
        self.assertIs(are_waits(((0,) * 12,) * 13), False)
        self.assertIs(are_waits(((0,) * 13,) * 12), False)


class Times(unittest.TestCase):
    def test_times_and_begins(self):
        for waits in ALL_WAITS:
            begins, passes = times_told(waits)
            self.assertEqual(times_of(waits), passes)
            self.assertEqual(begins_of(waits), begins)
            self.assertEqual(last_time(waits), passes[-1][-1])

    def test_greatest_sums_of_ways(self):
        for waits in small_waits(2, 2, 2) + chance_waits(20, 4, 4):
            for car, row in enumerate(times_of(waits)):
                for gate, time in enumerate(row):
                    ways = ways_told(len(waits), len(waits[0]), end=(car, gate))
                    self.assertEqual(time, max(sum_told(waits, way) for way in ways))

    def test_there_and_back(self):
        for waits in ALL_WAITS:
            times = times_of(waits)
            self.assertIs(are_times(times), True)
            self.assertEqual(waits_of(times), waits)
            self.assertIs(are_times([list(row) for row in times]), False)

    def test_each_table_of_times_comes_from_one_table_of_waits(self):
        for cars, gates in ((2, 2), (1, 3), (3, 1)):
            tables = {}
            for waits in small_waits(cars, gates, 4):
                tables.setdefault(times_told(waits)[1], []).append(waits)
            self.assertTrue(all(len(waits) == 1 for waits in tables.values()))
            for table in itertools.product(itertools.product(range(-1, 5), repeat=gates), repeat=cars):
                self.assertIs(are_times(table), table in tables, table)
                if table in tables:
                    self.assertEqual([waits_of(table)], tables[table])
                else:
                    check_error(self, InvalidTimes, waits_of, (table,))

    def test_what_is_none(self):
        for value in NO_TIMES:
            self.assertIs(are_times(value), False, value)

    def test_times_of_waits_that_come_to_the_most(self):
        self.assertEqual(times_of(SPREAD), ((10 ** 9 - 5, 10 ** 9 - 5, 10 ** 9 - 3), (10 ** 9 - 5, 10 ** 9 - 2, 10 ** 9 - 2)))
        self.assertIs(are_times(((10 ** 9, 10 ** 9), (10 ** 9, 10 ** 9))), True)
        self.assertEqual(waits_of(((10 ** 9, 10 ** 9), (10 ** 9, 10 ** 9))), ((10 ** 9, 0), (0, 0)))
        # no time is above 10 ** 9, but the waits come to one more in all
        self.assertIs(are_times(((0, 10 ** 9), (1, 10 ** 9))), False)
        self.assertIs(are_times(((0, 10 ** 9 - 1), (1, 10 ** 9 - 1))), True)

    def test_passings(self):
        for waits in ALL_WAITS:
            told = sorted((time, car, gate) for car, row in enumerate(times_told(waits)[1])
                          for gate, time in enumerate(row))
            self.assertEqual(passings(waits), told)
        passings(V).clear()
        self.assertEqual(len(passings(V)), 6)


class Roads(unittest.TestCase):
    def test_at_all_times(self):
        for waits in ALL_WAITS:
            cars, gates = len(waits), len(waits[0])
            times = times_told(waits)[1]
            some = {time for row in times for time in row}
            for time in sorted(some | {time + 1 for time in some} | {max(time - 1, 0) for time in some} | {0, 10 ** 12})[:60]:
                passed = [sum(item <= time for item in row) for row in times]
                self.assertEqual(hops_by(waits, time), tuple(passed))
                places = {cars - 1 - car + many for car, many in enumerate(passed)}
                self.assertEqual(len(places), cars)
                self.assertEqual(road_at(waits, time), tuple(int(at in places) for at in range(cars + gates)))
                for gate in range(gates):
                    told = [car for car in range(cars) if (gate == 0 or times[car][gate - 1] <= time) and times[car][gate] > time]
                    self.assertEqual(line_at(waits, gate, time), told)

    def test_hops_lead_along_the_road(self):
        for waits in ALL_WAITS:
            cars, gates = len(waits), len(waits[0])
            road = [1] * cars + [0] * gates
            hops = hop_words(waits)
            self.assertEqual(len(hops), cars * gates)
            at = 0
            for time, group in itertools.groupby(passings(waits), key=lambda passing: passing[0]):
                for _, car, gate in group:
                    word, place = hops[at]
                    self.assertEqual((word, place), ("on", cars - 1 - car + gate))
                    self.assertEqual((road[place], road[place + 1]), (1, 0))
                    road[place], road[place + 1] = 0, 1
                    at += 1
                self.assertEqual(road_at(waits, time), tuple(road))
            self.assertEqual(road, [0] * gates + [1] * cars)

    def test_waits_of_0(self):
        self.assertEqual(hops_by(EMPTY, 0), (12,) * 12)
        self.assertEqual(road_at(EMPTY, 0), (0,) * 12 + (1,) * 12)
        self.assertEqual(hop_words(EMPTY)[:13], [("on", place) for place in range(11, 23)] + [("on", 10)])
        self.assertEqual([line_at(EMPTY, gate, 0) for gate in (0, 11)], [[], []])

    def test_the_bounds(self):
        self.assertEqual(hops_by(MOST, 10 ** 9 - 1), (0,))
        self.assertEqual(hops_by(MOST, 10 ** 9), (1,))
        self.assertEqual(road_at(MOST, 0), (1, 0))
        self.assertEqual(road_at(MOST, 10 ** 12), (0, 1))
        self.assertEqual(road_at(FULL, 10 ** 12), (0,) * 12 + (1,) * 12)
        self.assertEqual(line_at(LONG, 11, 55), [0])
        self.assertEqual(line_at(LONG, 11, 66), [])
        self.assertEqual(line_at(TALL, 0, 1), list(range(2, 12)))


class Wrong(unittest.TestCase):
    def test_errors_in_order(self):
        for good in (V, ((0,),), FULL):
            waits = (good, InvalidWaits, NO_WAITS)
            for function in (times_of, begins_of, last_time, passings, hop_words):
                check_arguments(self, function, waits)
            for good_time in (0, 10 ** 12):
                time = (good_time, InvalidTime, wrong_numbers(0, 10 ** 12))
                check_arguments(self, hops_by, waits, time)
                check_arguments(self, road_at, waits, time)
                gates = len(good[0])
                for gate in (0, gates - 1):
                    wrong = NO_INTEGERS + [-1, gates, gates + 1, BIG, -BIG]
                    check_arguments(self, line_at, waits, (gate, InvalidGate, wrong), time)
        check_arguments(self, waits_of, (((1, 3), (4, 5), (4, 7)), InvalidTimes, NO_TIMES))


if __name__ == "__main__":
    unittest.main()
