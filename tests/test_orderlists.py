"""Lists of orders by their rows, and joint counts: [62], and the guarantees on them in [3]."""

import math
import unittest
from collections import Counter

from hoproads.errors import InvalidPlaces, InvalidRow
from hoproads.orderfalls import pattern_weight
from hoproads.orderlists import joint_crossings, joint_ends, joint_patterns, orders_crossing, orders_falling
from hoproads.orders import crossing_weight, is_order
from hoproads.weights import row_weight
from tests import oracles
from tests.support import (A, BIG, WRONG_PLACES, WRONG_ROWS, all_rows, check_arguments, check_error, check_too_many,
                           rows_up_to)
from tests.test_orders import crossings_told, falls_told, lows_told, orders_of, patterns_told, tops_told


def crossing_row_told(order):
    return tuple(1 if order[place + 1] >= place + 1 else 0 for place in range(len(order) - 1))


def counted(pairs):
    return [pair + (many,) for pair, many in sorted(Counter(pairs).items())]


class Lists(unittest.TestCase):
    def test_rows_of_up_to_five_places(self):
        for places in range(1, 6):
            orders = orders_of(places + 1)
            for row in all_rows(places):
                self.assertEqual(orders_crossing(row), [order for order in orders if crossing_row_told(order) == row])
                self.assertEqual(orders_falling(row), [order for order in orders if falls_told(order) == row])

    def test_rows_of_six_places(self):
        orders = orders_of(7)
        for row in ((1, 0) * 3, (0, 1) * 3, (0,) * 6, (1,) * 6, (1, 1, 1, 0, 0, 0), (1, 0, 0, 1, 0, 0)):
            self.assertEqual(orders_crossing(row), [order for order in orders if crossing_row_told(order) == row])
            self.assertEqual(orders_falling(row), [order for order in orders if falls_told(order) == row])
        self.assertEqual(orders_falling((0,) * 6), [tuple(range(7))])
        self.assertEqual(orders_crossing((1,) * 6), [tuple(range(7))])

    def test_too_many_places(self):
        for function in (orders_crossing, orders_falling):
            for places in (7, 8, 12):
                check_too_many(self, 6, function, (1,) * places)
                check_too_many(self, 6, function, (1, 0, 1) * 4)
            check_error(self, InvalidRow, function, ((1,) * 13,))

    def test_they_are_orders_whose_weights_come_to_that_of_the_row(self):
        for row in rows_up_to(5):
            for found, weight in ((orders_crossing(row), crossing_weight), (orders_falling(row), pattern_weight)):
                self.assertTrue(all(is_order(order) for order in found))
                told = oracles.added(*[oracles.totals(weight(order)) for order in found])
                self.assertEqual(oracles.terms(told), row_weight(row))

    def test_lists_are_new(self):
        for function in (orders_crossing, orders_falling):
            function(A).clear()
            self.assertEqual(len(function(A)), 3)


class Joint(unittest.TestCase):
    def test_counts(self):
        for places in range(1, 6):
            orders = orders_of(places + 1)
            crossings = [(sum(crossing_row_told(order)), len(crossings_told(order))) for order in orders]
            patterns = [(sum(falls_told(order)), len(patterns_told(order))) for order in orders]
            ends = [(len(lows_told(order)), len(tops_told(order))) for order in orders]
            self.assertEqual(joint_crossings(places), counted(crossings))
            self.assertEqual(joint_patterns(places), counted(patterns))
            self.assertEqual(joint_ends(places), counted(ends))

    def test_as_many_crossings_as_patterns(self):
        for places in range(1, 6):
            self.assertEqual(joint_crossings(places), joint_patterns(places))

    def test_all_orders_are_counted(self):
        for function in (joint_crossings, joint_patterns, joint_ends):
            for places in range(1, 6):
                self.assertEqual(sum(many for _, _, many in function(places)), math.factorial(places + 1))

    def test_too_many_places(self):
        for function in (joint_crossings, joint_patterns, joint_ends):
            self.assertTrue(function(5))
            for places in (6, 7, 12):
                check_too_many(self, 5, function, places)
            check_error(self, InvalidPlaces, function, (13,))

    def test_lists_are_new(self):
        for function in (joint_crossings, joint_patterns, joint_ends):
            function(2).clear()
            self.assertTrue(function(2))


class Wrong(unittest.TestCase):
    def test_errors(self):
        for function in (orders_crossing, orders_falling):
            check_arguments(self, function, (A, InvalidRow, WRONG_ROWS))
        for function in (joint_crossings, joint_patterns, joint_ends):
            check_arguments(self, function, (2, InvalidPlaces, WRONG_PLACES + [BIG]))


if __name__ == "__main__":
    unittest.main()
