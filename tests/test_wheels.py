"""Wheels: [36], [77], and what [3] says of the wheels themselves."""

import itertools
import math
import unittest

from hoproads.errors import InvalidCounts, InvalidNumber, InvalidPlace, InvalidSort, InvalidWheel, TooFew
from hoproads.wheels import (count_wheels, is_wheel, sort_counts, sorts_joined, wheel_hopped, wheel_hops, wheel_mirrored,
                             wheel_sources, wheel_turned, wheels_with)
from tests.rings import all_counts, counts_told, hops_told, is_wheel_told, wheels_of, wheels_told
from tests.support import (BIG, NO_INTEGERS, STRAYS, check_arguments, check_error, check_too_many, wrong_numbers)

LONG_WHEELS = [
    (1, 2) * 4, (2, 1, 1, 1, 1, 1, 1, 1), (1, 2, 3, 4, 5, 5, 4, 3), (5, 4, 3, 2, 1, 1, 1, 1), (3, 1, 2, 3, 1, 2, 3, 1),
    (4, 3, 2, 1, 4, 3, 2, 1), (1, 1, 1, 1, 2, 2, 2, 2), (5, 1, 4, 2, 3, 3, 2), (1, 2, 2, 1, 3, 3, 4),
]
WHEELS = [wheel for places in range(2, 5) for wheel in wheels_told(places)] + LONG_WHEELS

NO_WHEELS = STRAYS + [
    (), (1,), (2,), (1, 1), (2, 2), (1, 3), (3, 1, 1), (2, 3), (0, 1), (1, 0), (0, 1, 2), (1, 2, 4), (1, 2, -1), [1, 2],
    [2, 1], (True, 2), (2, True), (1, 2, None), (1, "2"), "12", ((1,), (2,)), (1, 2, (3,)), (1, 2, 3, 4, 5, 6),
    (1, 2) * 4 + (1,), (1, 2) * 5, (1, BIG), (1, 2, BIG), (-BIG, 1, 2), (1,) * 8, (1, 2, 3, 4, 5, 6, 7, 8), (1, 2) * 500,
    (1, 2, [3]), (False, True, 2),
]
NO_COUNTS = STRAYS + [
    (), (1,), (2,), (8,), (0, 1), (1, 0), (1, 0, 1), (2, -1), (1, 8), (4, 5), (8, 1), (9, -1), (2, 2, 2, 3),
    (1, 1, 1, 1, 1, 1), (1, 1, 1, 1, 5), [1, 1], [2, 1], (True, 1), (1, True), (1, None), (1, "1"), "11", ((1,), (1,)),
    (BIG, 1), (1, BIG), (1, -BIG), (1, 1, 0), (1,) * 8, (1, [1]), (1, BIG, -BIG), (4, 4, 1),
]


class IsWheel(unittest.TestCase):
    def test_all_short_tuples(self):
        for places in range(1, 5):
            for value in itertools.product(range(-1, 8), repeat=places):
                told = places > 1 and is_wheel_told(value)
                self.assertIs(is_wheel(value), told, value)
                self.assertIs(is_wheel(list(value)), False)

    def test_long_wheels(self):
        for wheel in LONG_WHEELS:
            self.assertIs(is_wheel(wheel), True)
            self.assertIs(is_wheel(wheel + (1,)), len(wheel) < 8)

    def test_what_is_none(self):
        for value in NO_WHEELS:
            self.assertIs(is_wheel(value), False, value)


class Hops(unittest.TestCase):
    def test_counts(self):
        for wheel in WHEELS:
            self.assertEqual(sort_counts(wheel), counts_told(wheel))

    def test_hops(self):
        for wheel in WHEELS:
            told = hops_told(wheel)
            self.assertEqual(wheel_hops(wheel), [place for place, _ in told])
            for place, behind in told:
                self.assertEqual(wheel_hopped(wheel, place), behind)
            for place in set(range(-1, len(wheel) + 1)) - {place for place, _ in told}:
                check_error(self, InvalidPlace, wheel_hopped, (wheel, place))

    def test_wheels_of_two_places(self):
        self.assertEqual(wheel_hops((1, 2)), [0])
        self.assertEqual(wheel_hops((2, 1)), [1])
        self.assertEqual(wheel_hopped((2, 1), 1), (1, 2))
        self.assertEqual(wheel_sources((1, 2)), [(2, 1)])

    def test_sources(self):
        for places in range(2, 6):
            for counts in all_counts(places):
                wheels = wheels_of(counts)
                sources = {wheel: [] for wheel in wheels}
                for wheel in wheels:
                    for _, behind in hops_told(wheel):
                        sources[behind].append(wheel)
                for wheel in wheels:
                    self.assertEqual(wheel_sources(wheel), sources[wheel])
        for wheel in LONG_WHEELS:
            found = wheel_sources(wheel)
            self.assertEqual(found, sorted(set(found)))
            self.assertTrue(all(wheel in [behind for _, behind in hops_told(source)] for source in found))
            # there are as many as there are falls from a place to the next one
            self.assertEqual(len(found), sum(wheel[at - 1] > wheel[at] for at in range(len(wheel))))


class Turns(unittest.TestCase):
    def test_turned(self):
        for wheel in WHEELS:
            places = len(wheel)
            for steps in [-1000, -999, -9, -2, -1, 0, 1, 2, 7, 8, 999, 1000]:
                found = wheel_turned(wheel, steps)
                self.assertTrue(all(found[(at + steps) % places] == wheel[at] for at in range(places)))
                self.assertEqual(wheel_turned(found, -steps), wheel)
        for steps in (-1001, 1001, BIG, -BIG):
            check_error(self, InvalidNumber, wheel_turned, ((1, 2), steps))

    def test_mirrored(self):
        for wheel in WHEELS:
            sorts = max(wheel)
            self.assertEqual(wheel_mirrored(wheel), tuple(sorts + 1 - sort for sort in reversed(wheel)))
            self.assertEqual(wheel_mirrored(wheel_mirrored(wheel)), wheel)
            # a hop there is a hop here
            self.assertEqual(len(wheel_hops(wheel_mirrored(wheel))), len(wheel_hops(wheel)))

    def test_joined(self):
        for wheel in WHEELS:
            for sort in range(1, max(wheel)):
                if max(wheel) == 2:
                    check_error(self, TooFew, sorts_joined, (wheel, sort))
                else:
                    told = tuple(thing - 1 if thing > sort else thing for thing in wheel)
                    self.assertEqual(sorts_joined(wheel, sort), told)
                    self.assertIs(is_wheel(told), True)

    def test_two_sorts_joined(self):
        check_error(self, TooFew, sorts_joined, ((1, 2), 1))
        for sort in (0, 2, 3, -1, True, None, "1", (1,)):
            check_error(self, InvalidSort, sorts_joined, ((1, 2), sort))
            check_error(self, InvalidSort, sorts_joined, ((1, 2) * 4, sort))


class Lists(unittest.TestCase):
    def test_all_wheels_with_counts(self):
        for places in range(2, 6):
            for counts in all_counts(places):
                self.assertEqual(wheels_with(counts), wheels_of(counts))
        for counts in ((3, 3), (1, 5), (5, 1), (2, 2, 2), (1, 2, 3), (2, 1, 1, 1, 1), (1, 1, 2, 1, 1), (1, 1, 1, 1, 2)):
            self.assertEqual(wheels_with(counts), wheels_of(counts))

    def test_counts(self):
        for places in range(2, 9):
            for counts in all_counts(places):
                told = math.factorial(places)
                for many in counts:
                    told //= math.factorial(many)
                self.assertEqual(count_wheels(counts), told)
                if places <= 6:
                    self.assertEqual(len(wheels_with(counts)), told)

    def test_7_places_and_8(self):
        for counts in ((3, 4), (1, 6), (1, 1, 1, 1, 3), (4, 4), (1, 7), (2, 2, 2, 2), (1, 1, 1, 1, 4)):
            check_too_many(self, 6, wheels_with, counts)

    def test_lists_are_new(self):
        wheels_with((1, 1)).clear()
        wheel_hops((1, 2)).clear()
        wheel_sources((1, 2)).clear()
        self.assertEqual((wheels_with((1, 1)), wheel_hops((1, 2)), wheel_sources((1, 2))), ([(1, 2), (2, 1)], [0], [(2, 1)]))


class Wrong(unittest.TestCase):
    def test_errors_in_order(self):
        for good in ((1, 3, 2), (1, 2), (2, 1, 3, 4, 5, 5, 5, 5)):
            wheel = (good, InvalidWheel, NO_WHEELS)
            for function in (sort_counts, wheel_hops, wheel_sources, wheel_mirrored):
                check_arguments(self, function, wheel)
            for steps in (-1000, 1000):
                check_arguments(self, wheel_turned, wheel, (steps, InvalidNumber, wrong_numbers(-1000, 1000)))
        wheel = ((1, 3, 2), InvalidWheel, NO_WHEELS)
        check_arguments(self, wheel_hopped, wheel, (0, InvalidPlace, NO_INTEGERS + [-1, 1, 2, 3, BIG, -BIG]))
        check_arguments(self, sorts_joined, wheel, (2, InvalidSort, NO_INTEGERS + [-1, 0, 3, 4, BIG, -BIG]))
        for counts in ((1, 1), (1, 1, 1, 1, 1), (2, 4)):
            for function in (wheels_with, count_wheels):
                check_arguments(self, function, (counts, InvalidCounts, NO_COUNTS))


if __name__ == "__main__":
    unittest.main()
