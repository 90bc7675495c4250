"""Roads, rows, rates and hops: [4], [5], [47]."""

import unittest
from fractions import Fraction

from hoproads.errors import InvalidHop, InvalidRates, InvalidRow
from hoproads.roads import are_rates, hop_back, hop_rate, hopped, hops_of, is_row, rate_away
from tests.support import (A, ALL_RATES, B, BIG, C, NARROW, R, S, WIDE, WRONG_RATES, WRONG_ROWS, STRAYS, all_rows,
                           check_arguments, rows_up_to)

SOME_HOPS = ([("in", 0)] + [("out", place) for place in range(12)] + [("on", place) for place in range(11)]
             + [("back", place) for place in range(1, 12)])

NO_HOPS = STRAYS + [
    ("in", 1), ("in", -1), ("out", 12), ("out", -1), ("on", 11), ("on", -1), ("back", 0), ("back", 12),
    ("in", False), ("out", True), ("on", True), ("on", False), ("back", True), ["in", 0], ["on", 0], ("in",), ("in", 0, 0),
    ("In", 0), ("", 0), (0, "in"), ("in", "0"), ("in", None), ("in", (0,)), (("in", 0),), ("out", BIG), ("mirror",),
    ("hop", 1), "in",
]


def hops_told(row):
    """The hops of a row straight from their definition, as a dict to the rows behind them."""
    told = {}
    last = len(row) - 1
    if row[0] == 0:
        told[("in", 0)] = (1,) + row[1:]
    if row[last] == 1:
        told[("out", last)] = row[:last] + (0,)
    for place in range(len(row)):
        if row[place] == 1:
            if place < last and row[place + 1] == 0:
                told[("on", place)] = row[:place] + (0, 1) + row[place + 2:]
            if place > 0 and row[place - 1] == 0:
                told[("back", place)] = row[:place - 1] + (1, 0) + row[place + 1:]
    return told


class Rows(unittest.TestCase):
    def test_rows_of_1_to_12_places(self):
        for row in rows_up_to(6) + [(0,) * 12, (1,) * 12, (1, 0) * 6]:
            self.assertIs(is_row(row), True)

    def test_what_is_no_row(self):
        for value in WRONG_ROWS:
            self.assertIs(is_row(value), False, value)


class Rates(unittest.TestCase):
    def test_rates_within_the_bounds(self):
        for rates in ALL_RATES + (((1000, 999), (999, 1000), (0, 1)), ((1, 1000), (1000, 1), (1, 1000))):
            self.assertIs(are_rates(rates), True, rates)

    def test_what_is_no_rates(self):
        for value in WRONG_RATES:
            self.assertIs(are_rates(value), False, value)


class Hops(unittest.TestCase):
    def test_hops_of_all_rows(self):
        for row in rows_up_to(7) + [(0,) * 12, (1,) * 12, (1, 0) * 6, (0, 1) * 6]:
            told = hops_told(row)
            self.assertEqual(hops_of(row), sorted(told))
            for hop, behind in told.items():
                self.assertEqual(hopped(row, hop), behind)

    def test_hops_of_rows_of_one_place(self):
        self.assertEqual(hops_of((0,)), [("in", 0)])
        self.assertEqual(hops_of((1,)), [("out", 0)])
        self.assertEqual(hopped((0,), ("in", 0)), (1,))
        self.assertEqual(hopped((1,), ("out", 0)), (0,))

    def test_lists_are_new(self):
        hops = hops_of(B)
        hops.clear()
        self.assertEqual(len(hops_of(B)), 3)

    def test_hop_back_leads_back_to_the_row(self):
        for row in rows_up_to(6):
            for hop in hops_of(row):
                back = hop_back(row, hop)
                if hop[0] in ("in", "out"):
                    self.assertIsNone(back)
                else:
                    self.assertNotEqual(back[0], hop[0])
                    self.assertEqual(hopped(hopped(row, hop), back), row)

    def test_only_hops_of_the_row_are_taken(self):
        for row in rows_up_to(4):
            told = hops_told(row)
            for hop in SOME_HOPS + NO_HOPS:
                plain = isinstance(hop, tuple) and len(hop) == 2 and type(hop[0]) is str and type(hop[1]) is int
                if plain and hop in told:
                    continue
                for function in (hopped, hop_back):
                    with self.assertRaises(InvalidHop):
                        function(row, hop)

    def test_true_is_no_place(self):
        self.assertIn(("on", 1), hops_of(B))
        with self.assertRaises(InvalidHop):
            hopped(B, ("on", True))
        with self.assertRaises(InvalidHop):
            hopped(B, ("in", False))
        with self.assertRaises(InvalidHop):
            hop_back(B, ["on", 1])


class HopRates(unittest.TestCase):
    def test_each_hop_has_the_rate_of_its_word(self):
        for rates in ALL_RATES:
            told = {"in": rates[0], "out": rates[1], "on": (1, 1), "back": rates[2]}
            for hop in SOME_HOPS:
                self.assertEqual(hop_rate(rates, hop), told[hop[0]])

    def test_the_rate_can_be_0(self):
        self.assertEqual(hop_rate(R, ("back", 11)), (0, 1))

    def test_rate_away_is_the_sum(self):
        for rates in ALL_RATES:
            for row in rows_up_to(5) + [(1, 0) * 6, (0, 1) * 6]:
                total = sum((Fraction(*hop_rate(rates, hop)) for hop in hops_told(row)), Fraction(0))
                self.assertEqual(rate_away(row, rates), (total.numerator, total.denominator))

    def test_rate_away_by_hand(self):
        self.assertEqual(rate_away((1, 1), S), (2, 3))
        self.assertEqual(rate_away(C, S), (7, 3))
        self.assertEqual(rate_away((0,), WIDE), (1000, 1))
        self.assertEqual(rate_away((0, 1), NARROW), (1000 * 999 * 1000 + 999 + 10 ** 6, 999000))
        self.assertEqual(rate_away(A, R), (1, 1))


class Wrong(unittest.TestCase):
    def test_errors_in_order(self):
        rows = ((0, 1, 0), InvalidRow, WRONG_ROWS)
        rates = (S, InvalidRates, WRONG_RATES)
        hops = (("on", 1), InvalidHop, NO_HOPS + [("out", 2), ("on", 0), ("back", 2)])
        check_arguments(self, hops_of, rows)
        check_arguments(self, hopped, rows, hops)
        check_arguments(self, hop_back, rows, hops)
        check_arguments(self, hop_rate, rates, (("on", 1), InvalidHop, NO_HOPS))
        check_arguments(self, rate_away, rows, rates)

    def test_all_rows_have_some_hop(self):
        for row in all_rows(5):
            self.assertTrue(hops_of(row))


if __name__ == "__main__":
    unittest.main()
