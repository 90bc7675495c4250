"""Weights, of rows and of roads: [7], [8], [49], and the guarantees on weights in [3]."""

import math
import random
import unittest

from hoproads.errors import InvalidPlaces, InvalidRates, InvalidRow, InvalidWeight
from hoproads.weights import is_weight, row_weight, weight_product, weight_sum, weight_value, whole_weight
from tests import oracles
from tests.support import (ALL_RATES, BIG, R, S, STRAYS, WRONG_PLACES, WRONG_RATES, WRONG_ROWS, all_rows,
                           check_arguments, check_error, check_too_many, rows_up_to)

MOST = 10 ** 30
THOUSAND = tuple((x, y, z, MOST) for x in range(71, 81) for y in range(71, 81) for z in range(71, 81))

NO_WEIGHTS = STRAYS + [
    ((0, 0, 0, 0),), ((0, 0, 0, -1),), ((-1, 0, 0, 1),), ((0, -1, 0, 1),), ((0, 0, -1, 1),), ((81, 0, 0, 1),),
    ((0, 81, 0, 1),), ((0, 0, 81, 1),), ((0, 0, 0, MOST + 1),), ((0, 0, 0, BIG),), ((BIG, 0, 0, 1),),
    ((0, 0, 0),), ((0, 0, 0, 1, 1),), [(0, 0, 0, 1)], ([0, 0, 0, 1],), (0, 0, 0, 1), ((0, 0, 0, True),),
    ((False, 0, 0, 1),), ((0, False, 0, 1),), ((0, 0, True, 1),), ((0, 0, 0, 1), (0, 0, 0, 1)),
    ((0, 0, 0, 1), (0, 0, 0, 2)), ((0, 0, 1, 1), (0, 0, 0, 1)), ((0, 1, 0, 1), (0, 0, 5, 1)),
    ((1, 0, 0, 1), (0, 9, 9, 1)), ((0, 0, 0, "1"),), ((0, 0, None, 1),), ((0, 0, 0, 1), None), ("0001",),
    ((0, 0, 0, 2), (0, 0, 0, 1)), tuple((0, x, y, 1) for x in range(7) for y in range(81)) + THOUSAND[:434],
]


def some_weight(seed, many, most):
    chance = random.Random(seed)
    keys = {tuple(chance.randint(0, most) for _ in range(3)) for _ in range(many)}
    return tuple(sorted(key + (chance.randint(1, 10 ** chance.randint(0, 30)),) for key in keys))


class IsWeight(unittest.TestCase):
    def test_weights_within_the_bounds(self):
        for value in ((), ((0, 0, 0, 1),), ((80, 80, 80, MOST),), ((0, 0, 0, 1), (0, 0, 1, 1), (0, 1, 0, 1)), THOUSAND):
            self.assertIs(is_weight(value), True)

    def test_what_is_none(self):
        self.assertEqual(len(NO_WEIGHTS[-1]), 1001)
        for value in NO_WEIGHTS:
            self.assertIs(is_weight(value), False, value)


class Arithmetic(unittest.TestCase):
    def test_sums(self):
        for seed in range(20):
            one, other = some_weight(seed, seed * 3, 3), some_weight(seed + 100, 20, 3)
            told = oracles.terms(oracles.added(oracles.totals(one), oracles.totals(other)))
            self.assertEqual(weight_sum(one, other), told)
            self.assertEqual(weight_sum(other, one), told)

    def test_products(self):
        for seed in range(20):
            one, other = some_weight(seed, seed, 3), some_weight(seed + 100, 9, 80)
            told = oracles.terms(oracles.times(oracles.totals(one), oracles.totals(other)))
            self.assertEqual(weight_product(one, other), told)
            self.assertEqual(weight_product(other, one), told)

    def test_nought_and_one(self):
        some = some_weight(5, 30, 9)
        self.assertEqual(weight_sum((), ()), ())
        self.assertEqual(weight_sum(some, ()), some)
        self.assertEqual(weight_product(some, ()), ())
        self.assertEqual(weight_product((), some), ())
        self.assertEqual(weight_product(some, ((0, 0, 0, 1),)), some)

    def test_results_can_go_beyond_the_bounds(self):
        greatest = ((80, 80, 80, MOST),)
        self.assertEqual(weight_sum(greatest, greatest), ((80, 80, 80, 2 * MOST),))
        self.assertEqual(weight_product(greatest, greatest), ((160, 160, 160, MOST * MOST),))
        self.assertEqual(len(weight_sum(THOUSAND, ((0, 0, 0, 1),))), 1001)
        self.assertEqual(weight_sum(THOUSAND, THOUSAND), tuple(term[:3] + (2 * MOST,) for term in THOUSAND))

    def test_too_many_products(self):
        self.assertEqual(len(weight_product(THOUSAND, THOUSAND[:10])) > 0, True)
        self.assertEqual(len(weight_product(THOUSAND[:100], THOUSAND[:100])) > 0, True)
        check_too_many(self, 10000, weight_product, THOUSAND, THOUSAND[:11])
        check_too_many(self, 10000, weight_product, THOUSAND[:101], THOUSAND[:100])
        check_too_many(self, 10000, weight_product, THOUSAND, THOUSAND)
        check_error(self, InvalidWeight, weight_product, (THOUSAND, [1]))


class Values(unittest.TestCase):
    def test_values(self):
        for rates in ALL_RATES:
            for some in ((), ((0, 0, 0, 7),), some_weight(1, 9, 4), some_weight(2, 40, 80), ((80, 80, 80, MOST),)):
                self.assertEqual(weight_value(rates, some), oracles.pair(oracles.value_told(rates, some)))
            self.assertEqual(weight_value(rates, THOUSAND), oracles.pair(oracles.value_told(rates, THOUSAND)))

    def test_by_hand(self):
        self.assertEqual(weight_value(R, ()), (0, 1))
        self.assertEqual(weight_value(R, ((1, 0, 0, 5),)), (0, 1))
        self.assertEqual(weight_value(S, ((0, 1, 0, 1),)), (2, 1))
        self.assertEqual(weight_value(S, ((0, 0, 1, 1),)), (3, 2))
        self.assertEqual(weight_value(S, ((1, 0, 0, 1),)), (1, 3))


class RowWeights(unittest.TestCase):
    def test_all_rows_by_the_rules_whatever_pair_is_taken(self):
        for pick in (0, 1, -1):
            known = {}
            for row in rows_up_to(7):
                self.assertEqual(row_weight(row), oracles.terms(oracles.weight_told(row, pick, known)))

    def test_long_rows(self):
        for row in ((1, 0) * 6, (0, 1) * 6, (1,) * 5 + (0,) * 7, (1, 1, 0) * 4):
            self.assertEqual(row_weight(row), oracles.terms(oracles.weight_told(row)))
        self.assertEqual(row_weight((0,) * 12), ((0, 12, 0, 1),))
        self.assertEqual(row_weight((1,) * 12), ((0, 0, 12, 1),))
        self.assertEqual(row_weight((0,) * 5 + (1,) * 7), ((0, 5, 7, 1),))

    def test_the_rule_of_exchange_at_each_pair(self):
        for row in rows_up_to(6):
            for at in range(len(row) - 1):
                if row[at:at + 2] == (1, 0) and len(row) > 1:
                    ahead, behind = row[:at], row[at + 2:]
                    bent = weight_product(((1, 0, 0, 1),), row_weight(ahead + (0, 1) + behind))
                    left = weight_sum(row_weight(ahead + (1,) + behind), row_weight(ahead + (0,) + behind))
                    self.assertEqual(row_weight(row), weight_sum(bent, left))

    def test_ends_are_factors(self):
        for row in rows_up_to(6):
            self.assertEqual(row_weight((0,) + row), weight_product(((0, 1, 0, 1),), row_weight(row)))
            self.assertEqual(row_weight(row + (1,)), weight_product(((0, 0, 1, 1),), row_weight(row)))

    def test_mirrored_rows_have_a_and_b_exchanged(self):
        for row in rows_up_to(7):
            mirrored = tuple(1 - item for item in row[::-1])
            exchanged = tuple(sorted((x, z, y, many) for x, y, z, many in row_weight(row)))
            self.assertEqual(row_weight(mirrored), exchanged)


class WholeWeights(unittest.TestCase):
    def test_sums_of_all_rows(self):
        for places in range(1, 9):
            known = {}
            told = oracles.added(*[oracles.weight_told(row, 0, known) for row in all_rows(places)])
            self.assertEqual(whole_weight(places), oracles.terms(told))

    def test_the_greatest_number_of_places(self):
        self.assertEqual(sum(term[3] for term in whole_weight(10)), math.factorial(11))
        self.assertEqual(sum(term[3] for term in whole_weight(9)), math.factorial(10))
        for places in (11, 12):
            check_too_many(self, 10, whole_weight, places)


class Wrong(unittest.TestCase):
    def test_errors_in_order(self):
        weights = (((0, 0, 0, 1),), InvalidWeight, NO_WEIGHTS)
        rates = (S, InvalidRates, WRONG_RATES)
        check_arguments(self, weight_sum, weights, weights)
        check_arguments(self, weight_product, weights, weights)
        check_arguments(self, weight_value, rates, weights)
        check_arguments(self, row_weight, ((1, 0), InvalidRow, WRONG_ROWS))
        check_arguments(self, whole_weight, (2, InvalidPlaces, WRONG_PLACES))


if __name__ == "__main__":
    unittest.main()
