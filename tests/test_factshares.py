"""Shares of rows that keep facts: [85]."""

import unittest
from fractions import Fraction

from hoproads.errors import InvalidFacts, InvalidPlaces, InvalidRates
from hoproads.factshares import likeliest, mean_cars, share_given, share_keeping
from hoproads.steady import steady_shares
from tests import oracles
from tests.support import ALL_RATES, FULL, R, S, WRONG_PLACES, WRONG_RATES, all_rows, check_arguments, check_error, check_too_many
from tests.test_rowfacts import ANY, NO_FACTS, rows_told, some_facts

NEVER = (("at", 0, 0), ("at", 0, 1))


def shares_told(rates, places):
    return {row: Fraction(*share) for row, share in zip(all_rows(places), steady_shares(rates, places))}


def pair_or_none(value):
    return None if value is None else oracles.pair(value)


class Shares(unittest.TestCase):
    def test_all_that_keep_facts(self):
        for rates in ALL_RATES:
            for places in (1, 2, 3, 4):
                shares = shares_told(rates, places)
                several = some_facts(places, 10)
                for facts, given in zip(several, several[1:] + several[:1]):
                    kept = rows_told(places, facts)
                    whole = sum((shares[row] for row in kept), Fraction(0))
                    self.assertEqual(share_keeping(rates, places, facts), oracles.pair(whole))
                    both = sum((shares[row] for row in kept if row in rows_told(places, given)), Fraction(0))
                    known = sum((shares[row] for row in rows_told(places, given)), Fraction(0))
                    self.assertEqual(share_given(rates, places, facts, given),
                                     pair_or_none(both / known if known else None))
                    cars = sum(shares[row] * sum(row) for row in kept)
                    self.assertEqual(mean_cars(rates, places, facts), pair_or_none(cars / whole if kept else None))
                    most = max((shares[row] for row in kept), default=None)
                    self.assertEqual(likeliest(rates, places, facts), [row for row in kept if shares[row] == most])

    def test_6_places(self):
        for rates in (R, S):
            shares = shares_told(rates, 6)
            facts = (("fronts", 2, 3), ("alike", 0, 5))
            kept = rows_told(6, facts)
            self.assertEqual(share_keeping(rates, 6, facts), oracles.pair(sum(shares[row] for row in kept)))
            self.assertEqual(share_keeping(rates, 6, ()), (1, 1))
            self.assertEqual(share_given(rates, 6, facts, facts), (1, 1))
            most = max(shares[row] for row in kept)
            self.assertEqual(likeliest(rates, 6, facts), [row for row in kept if shares[row] == most])

    def test_facts_that_no_row_keeps(self):
        for places in (1, 2, 6):
            self.assertEqual(share_keeping(S, places, NEVER), (0, 1))
            self.assertIs(share_given(S, places, (), NEVER), None)
            self.assertIs(share_given(S, places, NEVER, NEVER), None)
            self.assertEqual(share_given(S, places, NEVER, ()), (0, 1))
            self.assertEqual(likeliest(S, places, NEVER), [])
            self.assertIs(mean_cars(S, places, NEVER), None)

    def test_rows_with_the_same_share(self):
        # with in and out of one half, and no hops back, all rows are alike
        rates = ((1, 2), (1, 2), (0, 1))
        self.assertEqual(likeliest(rates, 4, ()), all_rows(4))
        self.assertEqual(likeliest(rates, 4, (("cars", 2, 2),)), rows_told(4, (("cars", 2, 2),)))
        self.assertEqual(mean_cars(rates, 5, ()), (5, 2))
        likeliest(rates, 4, ()).clear()
        self.assertEqual(len(likeliest(rates, 4, ())), 16)


class Wrong(unittest.TestCase):
    def test_errors_in_order(self):
        rates = (FULL, InvalidRates, WRONG_RATES)
        places = (2, InvalidPlaces, WRONG_PLACES)
        facts = ((ANY,), InvalidFacts, NO_FACTS)
        for function in (share_keeping, likeliest, mean_cars):
            check_arguments(self, function, rates, places, facts)
        check_arguments(self, share_given, rates, places, facts, facts)

    def test_7_places_and_more(self):
        for places in (7, 8, 12):
            facts = (("at", places - 1, 1),)
            wrong = (("at", places, 1),)
            for function in (share_keeping, likeliest, mean_cars):
                check_too_many(self, 6, function, S, places, facts)
                check_error(self, InvalidFacts, function, (S, places, wrong))
            check_too_many(self, 6, share_given, S, places, facts, facts)
            check_error(self, InvalidFacts, share_given, (S, places, facts, wrong))


if __name__ == "__main__":
    unittest.main()
