"""Orders, their crossings and their falls: [15], [16], [17], [58], [59], and the guarantees on them in [3]."""

import itertools
import random
import unittest

from hoproads.errors import InvalidOrder
from hoproads.orderfalls import late_lows, late_tops, pattern_weight, patterns_of, row_by_falls
from hoproads.orders import crossing_weight, crossings_of, is_order, lows_of, row_by_crossings, tops_of
from hoproads.weights import row_weight
from tests import oracles
from tests.support import BIG, STRAYS, all_rows, check_arguments

NO_ORDERS = STRAYS + [
    (), (0,), (1,), (0, 0), (1, 1), (0, 2), (1, 2), (-1, 0), (0, 1, 1), (0, 1, 3), (1, 2, 3), (0, 2, 2), [0, 1], [1, 0],
    (False, 1), (0, True), (True, False), (1, False), (2, True, 0), ("0", "1"), "01", (0, None), ((0,), (1,)),
    (0, 1, BIG), tuple(range(14)), tuple(range(15)), tuple(range(1, 14)), (0, 1, 2, (3,)), (0, 1, "2"), ([0, 1],),
]


def orders_of(things):
    return list(itertools.permutations(range(things)))


def orders_up_to(things):
    return [order for many in range(2, things + 1) for order in orders_of(many)]


def long_orders():
    chance = random.Random(7)
    found = [tuple(range(13)), tuple(range(12, -1, -1))]
    for _ in range(40):
        some = list(range(13))
        chance.shuffle(some)
        found.append(tuple(some))
    return found


def crossings_told(order):
    found = []
    for i in range(len(order)):
        for j in range(len(order)):
            up = i < j and j <= order[i] and order[i] < order[j]
            down = i > j and j > order[i] and order[i] > order[j]
            if up or down:
                found.append((i, j))
    return found


def tops_told(order):
    return [at for at in range(1, len(order)) if order[at] == max(order[:at + 1])]


def lows_told(order):
    return [at for at in range(len(order)) if order[at] < order[0] and order[at] == min(order[at:])]


def falls_told(order):
    row = []
    for thing in range(len(order) - 1):
        at = order.index(thing)
        row.append(1 if at > 0 and order[at - 1] > thing else 0)
    return tuple(row)


def patterns_told(order):
    return [(i, j) for i in range(len(order)) for j in range(len(order))
            if j >= i + 2 and order[i + 1] < order[j] < order[i]]


def late_lows_told(order):
    return [at for at in range(len(order) - 1) if order[at] == min(order[at:])]


def late_tops_told(order):
    return [at for at in range(len(order) - 1) if order[at] == max(order[at:])]


class IsOrder(unittest.TestCase):
    def test_orders(self):
        for order in orders_up_to(5) + long_orders():
            self.assertIs(is_order(order), True)

    def test_what_is_none(self):
        for value in NO_ORDERS:
            self.assertIs(is_order(value), False, value)


class Crossings(unittest.TestCase):
    def test_all_orders(self):
        for order in orders_up_to(6) + long_orders():
            self.assertEqual(row_by_crossings(order),
                             tuple(1 if order[place + 1] >= place + 1 else 0 for place in range(len(order) - 1)))
            self.assertEqual(crossings_of(order), crossings_told(order))
            self.assertEqual(tops_of(order), tops_told(order))
            self.assertEqual(lows_of(order), lows_told(order))
            told = (len(crossings_told(order)), len(lows_told(order)), len(tops_told(order)), 1)
            self.assertEqual(crossing_weight(order), (told,))

    def test_crossing_weights_come_to_the_weight_of_the_row(self):
        for places in range(1, 6):
            found = {row: {} for row in all_rows(places)}
            for order in orders_of(places + 1):
                row = row_by_crossings(order)
                found[row] = oracles.added(found[row], oracles.totals(crossing_weight(order)))
            for row in all_rows(places):
                self.assertEqual(row_weight(row), oracles.terms(found[row]))

    def test_orders_of_two_things(self):
        self.assertEqual(row_by_crossings((0, 1)), (1,))
        self.assertEqual(row_by_crossings((1, 0)), (0,))
        self.assertEqual(crossing_weight((0, 1)), ((0, 0, 1, 1),))
        self.assertEqual(crossing_weight((1, 0)), ((0, 1, 0, 1),))


class Falls(unittest.TestCase):
    def test_all_orders(self):
        for order in orders_up_to(6) + long_orders():
            self.assertEqual(row_by_falls(order), falls_told(order))
            self.assertEqual(patterns_of(order), patterns_told(order))
            self.assertEqual(late_lows(order), late_lows_told(order))
            self.assertEqual(late_tops(order), late_tops_told(order))
            told = (len(patterns_told(order)), len(late_lows_told(order)), len(late_tops_told(order)), 1)
            self.assertEqual(pattern_weight(order), (told,))

    def test_pattern_weights_come_to_the_weight_of_the_row(self):
        for places in range(1, 6):
            found = {row: {} for row in all_rows(places)}
            for order in orders_of(places + 1):
                row = row_by_falls(order)
                found[row] = oracles.added(found[row], oracles.totals(pattern_weight(order)))
            for row in all_rows(places):
                self.assertEqual(row_weight(row), oracles.terms(found[row]))

    def test_as_many_crossings_as_patterns(self):
        for things in range(2, 7):
            by_crossings = sorted((sum(row_by_crossings(order)), len(crossings_of(order))) for order in orders_of(things))
            by_patterns = sorted((sum(row_by_falls(order)), len(patterns_of(order))) for order in orders_of(things))
            self.assertEqual(by_crossings, by_patterns)

    def test_lists_are_new(self):
        for function in (crossings_of, tops_of, lows_of, patterns_of, late_lows, late_tops):
            order = (3, 0, 4, 1, 2)
            told = list(function(order))
            function(order).append(9)
            self.assertEqual(function(order), told)


class Wrong(unittest.TestCase):
    def test_errors(self):
        for function in (row_by_crossings, crossings_of, tops_of, lows_of, crossing_weight, row_by_falls, patterns_of,
                         late_lows, late_tops, pattern_weight):
            check_arguments(self, function, ((2, 0, 1), InvalidOrder, NO_ORDERS))


if __name__ == "__main__":
    unittest.main()
