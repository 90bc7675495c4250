"""Roads without hops back: [35], [76], and the guarantees on them in [3]."""

import itertools
import unittest
from collections import Counter
from fractions import Fraction

from hoproads.errors import InvalidEnds, InvalidNumber, InvalidPlace, InvalidPlaces, InvalidRow
from hoproads.lines import all_lines, count_all_lines
from hoproads.oneway import count_ends, endless_flow, oneway_car, oneway_flow, oneway_share, oneway_whole
from hoproads.shares import are_steady
from hoproads.steady import flow, share_of, share_with, steady_shares
from hoproads.trailweights import far_flow
from tests import oracles
from tests.support import (BIG, NO_INTEGERS, STRAYS, WRONG_ROWS, all_rows, check_arguments, check_error,
                           check_too_many, rows_up_to, wrong_numbers)

P, Q = ((1, 1), (1, 1)), ((1, 2), (2, 3))
# ends that come to 1, below it and above it, with one half, and at the bounds
ONES = [((1, 3), (2, 3)), ((1, 2), (1, 2)), ((3, 4), (1, 4)), ((999, 1000), (1, 1000))]
BELOW = [((1, 3), (1, 2)), ((1, 4), (1, 5)), ((1, 1000), (1, 1000)), ((1, 7), (1, 7))]
ABOVE = [P, Q, ((1, 1), (1, 4)), ((1, 2), (4, 5)), ((1000, 1), (1, 1000)), ((1000, 999), (999, 1000)), ((2, 3), (1, 2))]
ENDS = ONES + BELOW + ABOVE

WRONG_ENDS = STRAYS + [
    (), ((1, 1),), ((1, 1), (1, 1), (0, 1)), ((0, 1), (1, 1)), ((1, 1), (0, 1)), ((2, 2), (1, 1)), ((1, 1), (2, 4)),
    ((1001, 1), (1, 1)), ((1, 1), (1, 1001)), ((1, 1001), (1, 1)), ((1, 1), (1001, 1000)), ((-1, 2), (1, 1)),
    ((1, 1), (-1, 2)), ((1, 1), (1, 0)), ((1, -2), (1, 1)), ((True, 1), (1, 1)), ((1, 1), (1, True)),
    [(1, 1), (1, 1)], ([1, 1], (1, 1)), ((1, 1), [1, 1]), (1, 1), ((1, 1), None), ((BIG, 1), (1, 1)),
    ((1, 1), (1, BIG)), ((1,), (1, 1)), ((1, 1), (1, 1, 1)), ("11", (1, 1)), ((1, 1), ("1", 1)),
]


def places_out_of(most):
    return NO_INTEGERS + [0, -1, most + 1, BIG, -BIG]


def rates_of(ends):
    return ends + ((0, 1),)


def endless_told(ends):
    entering, leaving = [Fraction(*one) for one in ends]
    half = Fraction(1, 2)
    if entering < leaving and entering < half:
        return entering * (1 - entering)
    return leaving * (1 - leaving) if leaving < half else Fraction(1, 4)


def is_not_above(one, other):
    return Fraction(*one) <= Fraction(*other)


class Counts(unittest.TestCase):
    def test_all_lines_of_few_places(self):
        for places in range(1, 8):
            told = Counter((line.count(0), line[-1]) for line in all_lines(places))
            for zeros, last in itertools.product(range(places + 2), repeat=2):
                self.assertEqual(count_ends(places, zeros, last), told[(zeros, last)], (places, zeros, last))

    def test_all_counts_come_to_all_lines(self):
        for places in (8, 30, 31, 60, 61, 199, 200):
            counts = [[count_ends(places, zeros, last) for last in range(201)] for zeros in range(201)]
            self.assertEqual(sum(sum(row) for row in counts), count_all_lines(places))
            self.assertEqual(counts[0][0], 0)
            self.assertEqual(counts[places][0], 1)
            self.assertEqual(counts[0][places], 1)
            self.assertEqual(counts[1][places - 1], 1)

    def test_the_greatest_numbers(self):
        self.assertEqual(count_ends(200, 200, 0), 1)
        self.assertEqual(count_ends(200, 0, 200), 1)
        self.assertEqual(count_ends(200, 100, 100), 1)
        self.assertEqual(count_ends(200, 100, 101), 0)
        self.assertEqual(count_ends(200, 200, 200), 0)
        self.assertEqual(count_ends(1, 200, 200), 0)
        self.assertEqual(count_ends(1, 0, 1), 1)
        self.assertEqual(count_ends(1, 0, 0), 0)


class Wholes(unittest.TestCase):
    def test_lines_added(self):
        for ends in ENDS:
            a, b = [1 / Fraction(*one) for one in ends]
            for places in range(1, 7):
                told = sum(a ** line.count(0) * b ** line[-1] for line in all_lines(places))
                self.assertEqual(oneway_whole(ends, places), oracles.pair(told))

    def test_the_moments_of_trails(self):
        for ends in (Q, BELOW[0], ONES[0]):
            known = {}
            for places in (1, 2, 11, 12, 30, 31, 59, 60):
                told = oracles.ways_told(rates_of(ends), 0, 0, places, known)
                self.assertEqual(oneway_whole(ends, places), oracles.pair(told))

    def test_flows(self):
        for ends in ENDS:
            for places in range(1, 8):
                self.assertEqual(oneway_flow(ends, places), flow(rates_of(ends), places))
            for places in (12, 24):
                self.assertEqual(oneway_flow(ends, places), far_flow(rates_of(ends), places))
            for places in (1, 30, 31, 60):
                whole = Fraction(*oneway_whole(ends, places))
                shorter = Fraction(*oneway_whole(ends, places - 1)) if places > 1 else 1
                self.assertEqual(oneway_flow(ends, places), oracles.pair(shorter / whole))


class Endless(unittest.TestCase):
    def test_all_kinds_of_ends(self):
        for ends in ENDS:
            self.assertEqual(endless_flow(ends), oracles.pair(endless_told(ends)))
        self.assertEqual(endless_flow(((1, 2), (1, 2))), (1, 4))
        self.assertEqual(endless_flow(((1, 2), (2, 3))), (1, 4))
        self.assertEqual(endless_flow(((2, 3), (1, 2))), (1, 4))
        self.assertEqual(endless_flow(((1, 2), (1, 3))), (2, 9))
        self.assertEqual(endless_flow(((1, 7), (1, 7))), (6, 49))
        self.assertEqual(endless_flow(((499, 1000), (1, 2))), oracles.pair(Fraction(499 * 501, 1000000)))
        self.assertEqual(endless_flow(((1000, 1), (1, 1000))), (999, 1000000))

    def test_flows_go_there(self):
        for ends in ENDS:
            last = Fraction(*oneway_flow(ends, 60)) - endless_told(ends)
            self.assertLess(abs(last), Fraction(1, 50), ends)


class Shares(unittest.TestCase):
    def test_shares_of_few_places(self):
        for ends in ENDS:
            for places in range(1, 6):
                shares = tuple(oneway_share(ends, row) for row in all_rows(places))
                self.assertIs(are_steady(rates_of(ends), places, shares), True)
                if places < 4:
                    self.assertEqual(shares, steady_shares(rates_of(ends), places))

    def test_shares_of_long_rows(self):
        for row in ((1, 0) * 5, (1, 1, 0, 1, 0, 0, 1), (0,) * 9):
            for ends in (Q, ((1, 3), (1, 2)), ((999, 1000), (1, 1000))):
                self.assertEqual(oneway_share(ends, row), share_of(rates_of(ends), row))
        self.assertEqual(sum(Fraction(*oneway_share(Q, row)) for row in all_rows(12)), 1)

    def test_cars_of_few_places(self):
        for ends in ENDS:
            for places in range(1, 6):
                for place in range(places):
                    told = share_with(rates_of(ends), places, place)
                    self.assertEqual(oneway_car(ends, places, place), told)
            for place in (0, 3, 7):
                told = sum(Fraction(*oneway_share(ends, row)) for row in all_rows(8) if row[place])
                self.assertEqual(oneway_car(ends, 8, place), oracles.pair(told))

    def test_cars_of_30_places(self):
        for ends in ENDS:
            entering, leaving = [Fraction(*one) for one in ends]
            told = Fraction(*oneway_flow(ends, 30))
            # as many cars come in as go out
            self.assertEqual(entering * (1 - Fraction(*oneway_car(ends, 30, 0))), told)
            self.assertEqual(leaving * Fraction(*oneway_car(ends, 30, 29)), told)
            for place in (0, 1, 14, 28, 29):
                mirrored = Fraction(*oneway_car(ends[::-1], 30, 29 - place))
                self.assertEqual(Fraction(*oneway_car(ends, 30, place)), 1 - mirrored)

    def test_31_places_and_more(self):
        for places in (31, 32, 60):
            for place in (0, 30):
                check_too_many(self, 30, oneway_car, Q, places, place)
        check_error(self, InvalidPlaces, oneway_car, (Q, 61, 0))
        check_error(self, InvalidPlace, oneway_car, (Q, 31, 31))
        check_error(self, InvalidPlace, oneway_car, (Q, 60, -1))
        check_error(self, InvalidEnds, oneway_car, (None, 61, -1))


class Guarantees(unittest.TestCase):
    def test_products_where_in_and_out_come_to_1(self):
        for ends in ONES:
            entering, leaving = [Fraction(*one) for one in ends]
            self.assertEqual(entering + leaving, 1)
            for row in rows_up_to(5) + [(1, 0) * 6, (0, 1, 1) * 4, (0,) * 12, (1,) * 12]:
                told = entering ** sum(row) * leaving ** row.count(0)
                self.assertEqual(oneway_share(ends, row), oracles.pair(told))
            for places in (1, 2, 7, 30):
                for place in {0, places // 2, places - 1}:
                    self.assertEqual(oneway_car(ends, places, place), ends[0])
            for places in (1, 2, 30, 31, 60):
                self.assertEqual(oneway_flow(ends, places), oracles.pair(entering * leaving))

    def test_flows_do_not_grow_with_the_road(self):
        for ends in ONES + ABOVE:
            flows = [oneway_flow(ends, places) for places in range(1, 61)]
            for longer, shorter in zip(flows[1:], flows):
                self.assertTrue(is_not_above(longer, shorter))
            self.assertTrue(is_not_above(endless_flow(ends), flows[-1]))


class Wrong(unittest.TestCase):
    def test_errors_in_order(self):
        ends = (Q, InvalidEnds, WRONG_ENDS)
        for places in (1, 60):
            far_places = (places, InvalidPlaces, places_out_of(60))
            check_arguments(self, oneway_whole, ends, far_places)
            check_arguments(self, oneway_flow, ends, far_places)
        for places in (1, 30):
            far_places = (places, InvalidPlaces, places_out_of(60))
            place = (places - 1, InvalidPlace, NO_INTEGERS + [-1, places, BIG, -BIG])
            check_arguments(self, oneway_car, ends, far_places, place)
        check_arguments(self, endless_flow, ends)
        check_arguments(self, oneway_share, ends, ((1, 0) * 6, InvalidRow, WRONG_ROWS))
        for good in (0, 200):
            number = (good, InvalidNumber, wrong_numbers(0, 200))
            for places in (1, 200):
                check_arguments(self, count_ends, (places, InvalidPlaces, places_out_of(200)), number, number)


if __name__ == "__main__":
    unittest.main()
