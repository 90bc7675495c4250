"""Queue lines and bells: [37], [38], [78], and the guarantees on them in [3]."""

import itertools
import math
import random
import unittest
from collections import Counter

from hoproads.errors import InvalidCounts, InvalidPlace, InvalidQueueLine, InvalidQueueLines, InvalidWheel
from hoproads.queuelines import (are_queue_lines, bells_to, count_queue_lines, count_queue_lines_for, queue_lines_for,
                                 queue_lines_rung, served, wheel_of)
from hoproads.wheels import sorts_joined, wheel_hopped, wheel_hops, wheel_mirrored, wheel_turned
from tests.rings import (all_counts, counts_told, queue_lines_told, rung_told, served_told, wheel_told, wheels_of,
                         wheels_told)
from tests.support import BIG, NO_INTEGERS, STRAYS, check_arguments, check_error, check_too_many
from tests.test_wheels import LONG_WHEELS, NO_COUNTS, NO_WHEELS

J = ((1, 0, 0), (0, 1, 1))
LONG_LINES = [
    ((1, 0, 0, 0, 0, 0, 0, 0), (0, 1, 0, 0, 1, 0, 0, 0), (1, 0, 1, 0, 0, 1, 0, 1), (1, 1, 1, 0, 1, 1, 1, 1)),
    ((0, 1, 0, 1, 0, 0, 0, 0), (1, 1, 1, 0, 0, 0, 0, 0), (0, 0, 0, 1, 1, 1, 1, 0), (1, 1, 1, 1, 1, 0, 1, 0)),
    ((0, 0, 0, 0, 0, 0, 0, 1), (1, 1, 0, 0, 0, 0, 0, 1), (1, 1, 1, 1, 1, 1, 0, 1)),
    ((1, 0, 1, 0, 1, 0, 1, 0),), ((0, 1, 1, 1, 1, 1, 1, 1),), ((0, 0, 1, 0, 0, 0, 0), (1, 1, 1, 1, 1, 1, 0)),
    ((0, 0, 0, 0, 0, 1), (0, 0, 1, 0, 1, 0), (1, 0, 1, 0, 1, 0), (0, 1, 1, 0, 1, 1)),
]
SOME_COUNTS = [counts for places in range(2, 6) for counts in all_counts(places)]
SIX = [(1, 5), (3, 3), (1, 1, 4), (2, 2, 2), (1, 2, 1, 2), (2, 1, 1, 1, 1)]

NO_QUEUE_LINES = STRAYS + [
    (), ((),), ((1,),), ((0,),), ((0, 0),), ((1, 1),), ((1, 0), (1, 0)), ((1, 0), (1, 1)), ((0, 0), (0, 1)), ((1, 2),),
    ((0, -1),), ((1, 0, 0), (1, 1)), ((1, 0), (1, 1, 0)), ((1, 1, 0), (1, 0, 0)), ((1, 0, 0), (1, 1, 1)), [(1, 0)],
    ([1, 0],), ((True, 0),), ((1, False),), ((1, None),), (("1", "0"),), ("10",), (1, 0), ((1, 0), None), (None, (1, 0)),
    ((1, 0) * 4 + (0,),), ((1, 0, 0), (0, 1, 1), (1, 1, 1)), ((BIG, 0),), ((1,) + (0,) * 9,), ((1, (0,)),),
    tuple((1,) * ones + (0,) * (8 - ones) for ones in range(1, 6)), tuple((1,) * ones + (0,) * (8 - ones) for ones in range(8)),
    ((2, 0, 0),), ((1, -1, 1),), ((0, 2, 0), (1, 1, 1)), ((1, 0, 0), (1, 2, -1)), ((0, 1, 0, 0), (0, 2, 0, 0), (1, 1, 1, 0)),
    ((1, 0, 0), [1, 1, 0]), ((1, 0, 0), (1, 1, 0), ()),
]
# no line behind the queue lines of the wheel (1, 2, 2, 3), which has three cars
NO_QUEUE_LINE = STRAYS + [
    (), (1, 1, 0), (1, 1, 1, 1), (0, 1, 0, 1), (1, 0, 0, 0), (0, 0, 0, 0), (1, 1, 1, 0, 0), [1, 1, 1, 0], (1, 1, 2, 0),
    (1, 1, True, 0), (1, 1, 1, False), (1, 1, 1, None), "1110", (1, 1, "1", 0), (2, 2, 2, -1), (1, 1, BIG, 0), (1, 1, (1,), 0),
    (1, 1, 1, 0),
]
# lines whose items are not 0 and 1, though they come to as many as are asked for behind a wheel with two cars
NO_ITEMS = [(2, 1, 0, 0), (0, 0, 0, 3), (1, 1, 2, -1), (-1, 2, 1, 1), (3, 0, 0, 0)]


class AreQueueLines(unittest.TestCase):
    def test_all_of_few_places(self):
        for places in (1, 2, 3):
            choices = list(itertools.product((0, 1), repeat=places))
            for many in range(5):
                for lines in itertools.product(choices, repeat=many):
                    ones = [0] + [sum(line) for line in lines] + [places]
                    told = many > 0 and all(one < other for one, other in zip(ones, ones[1:]))
                    self.assertIs(are_queue_lines(lines), told, lines)

    def test_long_ones(self):
        for lines in LONG_LINES:
            self.assertIs(are_queue_lines(lines), True)
            self.assertIs(are_queue_lines(lines[::-1]), len(lines) == 1)
            self.assertIs(are_queue_lines(list(lines)), False)

    def test_what_is_none(self):
        for value in NO_QUEUE_LINES:
            self.assertIs(are_queue_lines(value), False, value)


class Wheels(unittest.TestCase):
    def test_all_queue_lines(self):
        for counts in SOME_COUNTS:
            for lines in queue_lines_told(counts):
                found = wheel_of(lines)
                self.assertEqual(found, wheel_told(lines))
                self.assertEqual(counts_told(found), counts)

    def test_the_order_of_those_of_one_sort_makes_no_difference(self):
        chance = random.Random(3)
        some = LONG_LINES + chance.sample(queue_lines_told((2, 2, 2)), 100) + chance.sample(queue_lines_told((3, 2, 1)), 50)
        for lines in some:
            for turn in range(4):
                self.assertEqual(wheel_of(lines), wheel_told(lines, turn))

    def test_served(self):
        for wheel in [wheel for places in (3, 4) for wheel in wheels_told(places)] + LONG_WHEELS:
            sorts = max(wheel)
            cars = len(wheel) - wheel.count(sorts)
            for line in itertools.product((0, 1), repeat=len(wheel)):
                if not cars < sum(line) < len(wheel):
                    check_error(self, InvalidQueueLine, served, (wheel, line))
                elif sorts == 5:
                    check_too_many(self, 4, served, wheel, line)
                else:
                    self.assertEqual(served(wheel, line), served_told(wheel, line))

    def test_served_behind_queue_lines(self):
        for lines in LONG_LINES:
            if len(lines) > 1:
                self.assertEqual(served(wheel_of(lines[:-1]), lines[-1]), wheel_of(lines))


class Bells(unittest.TestCase):
    def test_all_bells(self):
        for counts in SOME_COUNTS:
            for lines in queue_lines_told(counts):
                for place in range(sum(counts)):
                    self.assertEqual(queue_lines_rung(lines, place), rung_told(lines, place))

    def test_long_ones(self):
        for lines in LONG_LINES:
            for place in range(len(lines[0])):
                rung = queue_lines_rung(lines, place)
                self.assertEqual(rung, rung_told(lines, place))
                self.assertIn((place, lines), bells_to(rung))
            found = bells_to(lines)
            self.assertEqual(found, sorted(set(found)))
            self.assertEqual(len(found), len(lines[0]))
            self.assertTrue(all(are_queue_lines(others) and rung_told(others, place) == lines for place, others in found))

    def test_to_all_queue_lines_lead_as_many_bells_as_there_are_places(self):
        for counts in SOME_COUNTS + SIX[:4]:
            bells = {lines: [] for lines in queue_lines_told(counts)}
            for lines in bells:
                for place in range(sum(counts)):
                    bells[rung_told(lines, place)].append((place, lines))
            for lines, told in bells.items():
                self.assertEqual(len(told), sum(counts))
                self.assertEqual(bells_to(lines), sorted(told))

    def test_bells_go_along_with_hops(self):
        for counts in SOME_COUNTS:
            for lines in queue_lines_told(counts):
                wheel = wheel_of(lines)
                for place in range(sum(counts)):
                    behind = wheel_hopped(wheel, place) if place in wheel_hops(wheel) else wheel
                    self.assertEqual(wheel_of(queue_lines_rung(lines, place)), behind)
        for lines in LONG_LINES:
            wheel = wheel_of(lines)
            for place in range(len(wheel)):
                behind = wheel_hopped(wheel, place) if place in wheel_hops(wheel) else wheel
                self.assertEqual(wheel_of(queue_lines_rung(lines, place)), behind)

    def test_where_nothing_hops(self):
        lines = ((1, 0, 0, 0), (1, 1, 0, 0))
        self.assertEqual(queue_lines_rung(lines, 3), lines)
        self.assertEqual(queue_lines_rung(((0, 1),), 0), ((0, 1),))
        self.assertEqual(queue_lines_rung(((0, 1),), 1), ((1, 0),))


class Counts(unittest.TestCase):
    def test_all_counts(self):
        for places in range(2, 9):
            for counts in all_counts(places):
                told = 1
                for sort in range(1, len(counts)):
                    told *= math.comb(places, sum(counts[:sort]))
                self.assertEqual(count_queue_lines(counts), told)
                if places < 5:
                    self.assertEqual(len(queue_lines_told(counts)), told)

    def test_queue_lines_of_all_wheels(self):
        for counts in SOME_COUNTS + SIX:
            by_wheel = {wheel: [] for wheel in wheels_of(counts)}
            for lines in queue_lines_told(counts):
                by_wheel[wheel_told(lines)].append(lines)
            some = list(by_wheel) if sum(counts) < 6 else list(by_wheel)[::17]
            for wheel in some:
                self.assertEqual(queue_lines_for(wheel), by_wheel[wheel])
                self.assertEqual(count_queue_lines_for(wheel), len(by_wheel[wheel]))

    def test_the_most_queue_lines(self):
        counts = Counter(wheel_told(lines) for lines in queue_lines_told((1, 1, 1, 1, 2)))
        for wheel in ((5, 5, 4, 3, 2, 1), (1, 2, 3, 4, 5, 5), (1, 4, 5, 3, 2, 5)):
            self.assertEqual(count_queue_lines_for(wheel), counts[wheel])
            self.assertEqual(len(queue_lines_for(wheel)), counts[wheel])

    def test_7_places_and_8(self):
        for wheel in LONG_WHEELS:
            check_too_many(self, 6, queue_lines_for, wheel)
            check_too_many(self, 6, count_queue_lines_for, wheel)

    def test_lists_are_new(self):
        queue_lines_for((1, 3, 2)).clear()
        bells_to(J).clear()
        self.assertEqual((len(queue_lines_for((1, 3, 2))), len(bells_to(J))), (2, 3))


class Guarantees(unittest.TestCase):
    def test_wheels_turned_and_mirrored(self):
        for counts in SOME_COUNTS + SIX[:3]:
            many = Counter(wheel_of(lines) for lines in queue_lines_told(counts))
            mirrored = Counter(wheel_of(lines) for lines in queue_lines_told(counts[::-1]))
            for wheel in many:
                self.assertEqual(mirrored[wheel_mirrored(wheel)], many[wheel])
                for steps in (1, 2, -1, 1000):
                    self.assertEqual(many[wheel_turned(wheel, steps)], many[wheel])

    def test_sorts_joined(self):
        for counts in SOME_COUNTS + [(1, 2, 3), (2, 1, 1, 2)]:
            many = Counter(wheel_of(lines) for lines in queue_lines_told(counts))
            for sort in range(1, len(counts)):
                if len(counts) > 2:
                    joined = Counter()
                    for wheel, ways in many.items():
                        joined[sorts_joined(wheel, sort)] += ways
                    factor = math.comb(sum(counts), sum(counts[:sort]))
                    for wheel, ways in joined.items():
                        self.assertEqual(ways, factor * count_queue_lines_for(wheel))


class Wrong(unittest.TestCase):
    def test_errors_in_order(self):
        for lines in (J, ((0, 1),), LONG_LINES[0], LONG_LINES[3]):
            asked = (lines, InvalidQueueLines, NO_QUEUE_LINES)
            check_arguments(self, wheel_of, asked)
            check_arguments(self, bells_to, asked)
            places = len(lines[0])
            for place in (0, places - 1):
                wrong = NO_INTEGERS + [-1, places, places + 1, BIG, -BIG]
                check_arguments(self, queue_lines_rung, asked, (place, InvalidPlace, wrong))
        for counts in ((1, 1), (2, 2, 2, 2), (4, 1, 1, 1, 1)):
            check_arguments(self, count_queue_lines, (counts, InvalidCounts, NO_COUNTS))
        for wheel in ((1, 3, 2), (2, 1, 3, 4, 5, 5)):
            check_arguments(self, queue_lines_for, (wheel, InvalidWheel, NO_WHEELS))
            check_arguments(self, count_queue_lines_for, (wheel, InvalidWheel, NO_WHEELS))

    def test_errors_of_served_in_order(self):
        lines = [line for line in NO_QUEUE_LINE if line != (1, 1, 1, 0)] + NO_ITEMS
        check_arguments(self, served, ((1, 2, 3, 3), InvalidWheel, NO_WHEELS), ((1, 1, 1, 0), InvalidQueueLine, lines))
        for line in NO_QUEUE_LINE:
            check_error(self, InvalidQueueLine, served, ((1, 2, 2, 3), line))
            check_error(self, InvalidQueueLine, served, ((1, 2, 3, 4, 5, 5), line))
        check_too_many(self, 4, served, (1, 2, 3, 4, 5, 5), (1, 1, 1, 1, 1, 0))


if __name__ == "__main__":
    unittest.main()
