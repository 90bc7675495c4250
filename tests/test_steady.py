"""Steady shares and flows: [50], and the guarantees on them in [3]."""

import unittest
from fractions import Fraction

from hoproads.errors import InvalidPlace, InvalidPlaces, InvalidRates, InvalidRow
from hoproads.steady import flow, share_of, share_with, steady_shares
from hoproads.weights import row_weight, whole_weight
from tests import oracles
from tests.support import (ALL_RATES, NARROW, R, S, WIDE, WRONG_PLACES, WRONG_RATES, WRONG_ROWS, all_rows,
                           check_arguments, check_error, check_too_many, wrong_numbers)


def weights_told(rates, places):
    """The values of the weights of all rows of so many places, in ascending order."""
    known = {}
    return [oracles.value_told(rates, oracles.terms(oracles.weight_told(row, 0, known))) for row in all_rows(places)]


class Shares(unittest.TestCase):
    def test_each_share_is_its_weight_divided_by_the_whole(self):
        for rates in ALL_RATES:
            for places in range(1, 7):
                values = weights_told(rates, places)
                told = tuple(oracles.pair(value / sum(values)) for value in values)
                self.assertEqual(steady_shares(rates, places), told)
                for row, share in list(zip(all_rows(places), told))[::5]:
                    self.assertEqual(share_of(rates, row), share)

    def test_shares_of_long_rows(self):
        for rates in (R, S, WIDE, NARROW):
            for row in ((1, 0) * 5, (0,) * 10, (1,) * 10, (1, 1, 1, 0, 0, 0, 1)):
                whole = oracles.value_told(rates, whole_weight(len(row)))
                told = oracles.value_told(rates, row_weight(row)) / whole
                self.assertEqual(share_of(rates, row), oracles.pair(told))

    def test_too_many_places(self):
        for places in (11, 12):
            check_too_many(self, 10, share_of, S, (1,) * places)
            check_error(self, InvalidRates, share_of, (None, (1,) * places))
        for places in (7, 12):
            check_too_many(self, 6, steady_shares, S, places)
            check_error(self, InvalidRates, steady_shares, (None, places))


class SharesWith(unittest.TestCase):
    def test_sums_of_the_rows_with_a_car(self):
        for rates in ALL_RATES:
            for places in range(1, 7):
                values = weights_told(rates, places)
                for place in range(places):
                    cars = sum(value for row, value in zip(all_rows(places), values) if row[place] == 1)
                    self.assertEqual(share_with(rates, places, place), oracles.pair(cars / sum(values)))

    def test_too_many_places_come_behind_the_place(self):
        check_too_many(self, 6, share_with, S, 7, 6)
        check_too_many(self, 6, share_with, S, 12, 0)
        check_error(self, InvalidPlace, share_with, (S, 7, 7))
        check_error(self, InvalidPlace, share_with, (S, 7, None))
        check_error(self, InvalidPlaces, share_with, (S, 13, 13))
        self.assertEqual(share_with(S, 6, 5)[0] > 0, True)


class Flows(unittest.TestCase):
    def test_quotients_of_whole_weights(self):
        for rates in ALL_RATES:
            wholes = [sum(weights_told(rates, places)) for places in range(8)]
            for places in range(1, 8):
                self.assertEqual(flow(rates, places), oracles.pair(wholes[places - 1] / wholes[places]))

    def test_the_greatest_number_of_places(self):
        for rates in (S, WIDE):
            told = oracles.value_told(rates, whole_weight(9)) / oracles.value_told(rates, whole_weight(10))
            self.assertEqual(flow(rates, 10), oracles.pair(told))
        for places in (11, 12):
            check_too_many(self, 10, flow, S, places)

    def test_cars_come_in_as_they_go_out(self):
        for rates in ALL_RATES:
            for places in (1, 2, 4, 6):
                free = 1 - Fraction(*share_with(rates, places, 0))
                full = Fraction(*share_with(rates, places, places - 1))
                self.assertEqual(flow(rates, places), oracles.pair(Fraction(*rates[0]) * free))
                self.assertEqual(flow(rates, places), oracles.pair(Fraction(*rates[1]) * full))


class Wrong(unittest.TestCase):
    def test_errors_in_order(self):
        rates = (S, InvalidRates, WRONG_RATES)
        places = (2, InvalidPlaces, WRONG_PLACES)
        check_arguments(self, share_of, rates, ((1, 0), InvalidRow, WRONG_ROWS))
        check_arguments(self, steady_shares, rates, places)
        check_arguments(self, share_with, rates, places, (1, InvalidPlace, wrong_numbers(0, 1)))
        check_arguments(self, flow, rates, places)


if __name__ == "__main__":
    unittest.main()
