"""Level and fall weights, weights of trails, moments: [22], [64], and the guarantees on them in [3]."""

import math
import unittest
from fractions import Fraction

from hoproads.errors import InvalidHeight, InvalidPlaces, InvalidRates, InvalidSteps, InvalidTrail
from hoproads.steady import flow
from hoproads.trailweights import fall_weight, far_flow, level_weight, moment, trail_weight, weight_between
from hoproads.weights import whole_weight
from tests import oracles
from tests.support import (ALL_RATES, BELOW, BIG, FALL_RATES, NARROW, NO_FALL, NO_INTEGERS, NO_SECOND_FALL, R, S, WIDE,
                           WRONG_RATES, all_rows, check_arguments, wrong_numbers)
from tests.test_trails import LONG_TRAILS, NO_STEPS, NO_TRAILS

UP_AND_DOWN = (1,) * 12 + (-1,) * 12


def trail_weight_told(rates, trail):
    weight = Fraction(1)
    for at, step in enumerate(trail):
        if step == 0:
            weight *= oracles.level_told(rates, sum(trail[:at]))
        if step == -1:
            weight *= oracles.fall_told(rates, sum(trail[:at]))
    return weight


class Weights(unittest.TestCase):
    def test_all_heights(self):
        for rates in FALL_RATES:
            for height in range(25):
                self.assertEqual(level_weight(rates, height), oracles.pair(oracles.level_told(rates, height)))
            for height in range(1, 25):
                self.assertEqual(fall_weight(rates, height), oracles.pair(oracles.fall_told(rates, height)))

    def test_by_hand(self):
        # without hops back the count of every height from 1 on is 1
        for height in range(1, 25):
            self.assertEqual(level_weight(R, height), (2, 1))
            self.assertEqual(fall_weight(R, height), (1, 1))
        self.assertEqual(level_weight(BELOW, 0), (11, 2))
        self.assertEqual(level_weight(BELOW, 5), (2, 1))
        self.assertEqual(level_weight(((1, 1), (1, 1), (1, 1)), 7), (16, 1))
        self.assertEqual(fall_weight(((1, 1), (1, 1), (1, 1)), 7), (56, 1))

    def test_fall_weights_of_nought_and_below(self):
        self.assertEqual(fall_weight(NO_FALL, 1), (0, 1))
        self.assertEqual(fall_weight(NO_FALL, 2), (1, 1))
        self.assertEqual(fall_weight(BELOW, 1), (-2, 1))
        self.assertEqual(fall_weight(NO_SECOND_FALL, 1), (-2, 1))
        self.assertEqual(fall_weight(NO_SECOND_FALL, 2), (0, 1))

    def test_trails(self):
        for rates in FALL_RATES:
            trails = [trail for steps in range(6) for trail in oracles.trails_told(steps)]
            for trail in trails + LONG_TRAILS:
                self.assertEqual(trail_weight(rates, trail), oracles.pair(trail_weight_told(rates, trail)))
            self.assertEqual(trail_weight(rates, ()), (1, 1))
        self.assertEqual(trail_weight(NO_FALL, (1, -1)), (0, 1))


class Moments(unittest.TestCase):
    def test_sums_of_all_trails(self):
        for rates in FALL_RATES:
            for steps in range(8):
                told = sum(trail_weight_told(rates, trail) for trail in oracles.trails_told(steps))
                self.assertEqual(moment(rates, steps), oracles.pair(told))
            self.assertEqual(moment(rates, 0), (1, 1))

    def test_long_trails(self):
        for rates in FALL_RATES:
            for steps in (8, 11, 23, 24):
                self.assertEqual(moment(rates, steps), oracles.pair(oracles.moment_told(rates, steps)))

    def test_the_whole_weight_at_rates(self):
        wholes = [whole_weight(places) for places in range(1, 11)]
        for rates in FALL_RATES:
            for places in range(1, 6):
                known = {}
                told = oracles.added(*[oracles.weight_told(row, 0, known) for row in all_rows(places)])
                value = oracles.value_told(rates, oracles.terms(told))
                self.assertEqual(moment(rates, places), oracles.pair(value))
            for places in (6, 9, 10):
                value = oracles.value_told(rates, wholes[places - 1])
                self.assertEqual(moment(rates, places), oracles.pair(value))

    def test_all_stair_tables_are_counted_where_all_rates_are_1(self):
        for steps in range(25):
            self.assertEqual(moment(((1, 1), (1, 1), (1, 1)), steps), (math.factorial(steps + 1), 1))


class Between(unittest.TestCase):
    def test_ways_of_few_steps(self):
        for rates in (R, S, WIDE, BELOW, NO_FALL):
            for high in range(5):
                known = {}
                for low in range(5):
                    for steps in range(6):
                        told = oracles.ways_told(rates, low, high, steps, known)
                        self.assertEqual(weight_between(rates, low, high, steps), oracles.pair(told))

    def test_the_bounds(self):
        for rates in FALL_RATES:
            for low, high, steps in ((12, 12, 12), (0, 12, 12), (12, 0, 12), (0, 0, 12), (12, 11, 12), (7, 12, 12)):
                told = oracles.ways_told(rates, low, high, steps)
                self.assertEqual(weight_between(rates, low, high, steps), oracles.pair(told))
            self.assertEqual(weight_between(rates, 0, 12, 12), (1, 1))
            self.assertEqual(weight_between(rates, 0, 12, 11), (0, 1))
            self.assertEqual(weight_between(rates, 12, 0, 11), (0, 1))
            for height in (0, 5, 12):
                self.assertEqual(weight_between(rates, height, height, 0), (1, 1))
                self.assertEqual(weight_between(rates, height, 12 - height, 0), (1, 1) if height * 2 == 12 else (0, 1))
            self.assertEqual(weight_between(rates, 12, 0, 12), trail_weight(rates, UP_AND_DOWN))

    def test_moments_are_ways_from_0_to_0(self):
        for rates in FALL_RATES:
            for steps in range(13):
                self.assertEqual(weight_between(rates, 0, 0, steps), moment(rates, steps))


class Flows(unittest.TestCase):
    def test_the_flow_of_short_roads(self):
        for rates in ALL_RATES:
            for places in (1, 2, 5, 10):
                self.assertEqual(far_flow(rates, places), flow(rates, places))

    def test_quotients_of_moments(self):
        for rates in (R, S, WIDE, NARROW, BELOW, NO_FALL, NO_SECOND_FALL):
            for places in (1, 2, 3, 11, 12, 23, 24):
                told = oracles.moment_told(rates, places - 1) / oracles.moment_told(rates, places)
                self.assertEqual(far_flow(rates, places), oracles.pair(told))


class Wrong(unittest.TestCase):
    def test_errors_in_order(self):
        rates = (S, InvalidRates, WRONG_RATES)
        for height in (0, 24):
            check_arguments(self, level_weight, rates, (height, InvalidHeight, wrong_numbers(0, 24)))
        for height in (1, 24):
            check_arguments(self, fall_weight, rates, (height, InvalidHeight, wrong_numbers(1, 24)))
        check_arguments(self, trail_weight, rates, ((1, 0, -1), InvalidTrail, NO_TRAILS))
        for steps in (0, 24):
            check_arguments(self, moment, rates, (steps, InvalidSteps, NO_STEPS))
        for places in (1, 24):
            check_arguments(self, far_flow, rates, (places, InvalidPlaces, NO_INTEGERS + [0, -1, 25, BIG, -BIG]))

    def test_errors_of_ways_between_in_order(self):
        rates = (S, InvalidRates, WRONG_RATES)
        wrong = wrong_numbers(0, 12)
        for good in (0, 12):
            check_arguments(self, weight_between, rates, (good, InvalidHeight, wrong), (good, InvalidHeight, wrong),
                            (good, InvalidSteps, wrong))


if __name__ == "__main__":
    unittest.main()
