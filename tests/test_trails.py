"""Trails: [21], [63]."""

import itertools
import random
import unittest

from hoproads.errors import InvalidNumber, InvalidSteps, InvalidTrail
from hoproads.trails import count_trails, is_trail, trail_heights, trail_number, trail_with, trails_of
from tests import oracles
from tests.support import (BIG, NO_INTEGERS, STRAYS, check_arguments, check_error, check_too_many, wrong_numbers)

LONG_TRAILS = [
    (1,) * 12 + (-1,) * 12, (1, -1) * 12, (0,) * 24, (1,) + (0,) * 22 + (-1,), (0, 1, 0, -1) * 6, (1, 1, 0, -1, -1) * 4,
]

NO_TRAILS = [value for value in STRAYS if value != (0,) * 13] + [
    (1,), (-1,), (-1, 1), (1, 0), (0, 1), (1, -1, -1, 1), (1, -1, 1), (2, -2), (2, -1, -1), (1, 1, -2), (0, -1, 1), [1, -1], [], [0],
    (True, -1), (False,), (1, False, -1), (0, None), ("0",), "0", (0,) * 25, (1, -1) * 13, (1,) * 24, ((0,),), (0, BIG),
    (BIG, -BIG), (1, 0, 0, -1, -1), (0,) * 1000, (1, -1, [0]),
]
NO_STEPS = NO_INTEGERS + [-1, -BIG, 25, 26, BIG]


def counts_told(most):
    """The numbers of trails of 0, 1 and so on steps, by the part up to where a trail first comes back."""
    counts = [1]
    for steps in range(1, most + 1):
        over = sum(counts[inner] * counts[steps - 2 - inner] for inner in range(steps - 1))
        counts.append(counts[steps - 1] + over)
    return counts


class IsTrail(unittest.TestCase):
    def test_all_choices_of_steps(self):
        for steps in range(7):
            told = set(oracles.trails_told(steps))
            for value in itertools.product((-1, 0, 1), repeat=steps):
                self.assertIs(is_trail(value), value in told, value)
                self.assertIs(is_trail(list(value)), False)

    def test_long_trails(self):
        for trail in LONG_TRAILS:
            self.assertIs(is_trail(trail), True)
            self.assertIs(is_trail((0,) + trail), len(trail) < 24)

    def test_what_is_none(self):
        for value in NO_TRAILS:
            self.assertIs(is_trail(value), False, value)


class Heights(unittest.TestCase):
    def test_heights(self):
        for steps in range(8):
            for trail in oracles.trails_told(steps):
                self.assertEqual(trail_heights(trail), tuple(sum(trail[:at]) for at in range(steps)))
        for trail in LONG_TRAILS:
            self.assertEqual(trail_heights(trail), tuple(sum(trail[:at]) for at in range(len(trail))))
        self.assertEqual(trail_heights(()), ())


class Lists(unittest.TestCase):
    def test_all_trails(self):
        for steps in range(10):
            self.assertEqual(trails_of(steps), oracles.trails_told(steps))

    def test_too_many_steps(self):
        for steps in (10, 11, 24):
            check_too_many(self, 9, trails_of, steps)
        check_error(self, InvalidSteps, trails_of, (25,))

    def test_counts(self):
        told = counts_told(24)
        for steps in range(25):
            self.assertEqual(count_trails(steps), told[steps])
        self.assertEqual(count_trails(24), 3192727797)

    def test_lists_are_new(self):
        trails_of(3).clear()
        self.assertEqual(len(trails_of(3)), 4)


class Numbers(unittest.TestCase):
    def test_there_and_back(self):
        for steps in range(9):
            for number, trail in enumerate(oracles.trails_told(steps)):
                self.assertEqual(trail_number(trail), number)
                self.assertEqual(trail_with(steps, number), trail)

    def test_long_trails(self):
        chance = random.Random(5)
        for steps in (10, 17, 23, 24):
            many = counts_told(steps)[steps]
            for number in [0, 1, many - 2, many - 1] + [chance.randrange(many) for _ in range(20)]:
                trail = trail_with(steps, number)
                self.assertEqual(len(trail), steps)
                self.assertIs(is_trail(trail), True)
                self.assertEqual(trail_number(trail), number)
        self.assertEqual(trail_with(24, 0), (0,) * 24)
        self.assertEqual(trail_with(24, 3192727796), (1,) * 12 + (-1,) * 12)
        for trail in LONG_TRAILS:
            self.assertEqual(trail_with(len(trail), trail_number(trail)), trail)

    def test_they_ascend(self):
        chance = random.Random(6)
        numbers = sorted(chance.randrange(count_trails(20)) for _ in range(40))
        trails = [trail_with(20, number) for number in numbers]
        self.assertEqual(trails, sorted(trails))

    def test_numbers_beyond_the_last_one(self):
        for steps in range(25):
            many = counts_told(steps)[steps]
            self.assertEqual(len(trail_with(steps, many - 1)), steps)
            for number in (many, many + 1, -1, BIG):
                check_error(self, InvalidNumber, trail_with, (steps, number))


class Wrong(unittest.TestCase):
    def test_errors_in_order(self):
        for function in (trail_heights, trail_number):
            check_arguments(self, function, ((1, 0, -1), InvalidTrail, NO_TRAILS))
        for steps in (0, 24):
            check_arguments(self, count_trails, (steps, InvalidSteps, NO_STEPS))
        check_arguments(self, trails_of, (2, InvalidSteps, NO_STEPS))
        check_arguments(self, trail_with, (2, InvalidSteps, NO_STEPS), (1, InvalidNumber, wrong_numbers(0, 1)))
        check_arguments(self, trail_with, (0, InvalidSteps, NO_STEPS), (0, InvalidNumber, wrong_numbers(0, 0)))


if __name__ == "__main__":
    unittest.main()
