"""Orders melted to stair tables and back: [19], [20], [61], and the guarantees on them in [3]."""

import random
import unittest

from hoproads.errors import InvalidOrder, InvalidPlace, InvalidRow, InvalidTable
from hoproads.melting import (count_exchanges, dips_of, early_tops, melted, melted_back, melted_once, melting_weight,
                              order_alike)
from hoproads.orderfalls import row_by_falls
from hoproads.stairlists import all_tables, tables_of
from hoproads.stairs import is_table, table_weight
from hoproads.tablewalks import order_by_walks, table_by_walks
from hoproads.weights import row_weight
from tests import oracles
from tests.support import A, B, BIG, C, NO_INTEGERS, WRONG_ROWS, all_rows, check_arguments, check_error
from tests.test_orders import NO_ORDERS, falls_told, long_orders, orders_of, orders_up_to
from tests.test_stairs import NO_TABLES
from tests.test_tablewalks import LONG_TABLES

T = ((0, 1, "gap"), (2, 3, "car"))


def corners_told(order):
    row = falls_told(order)
    return [place for place in range(len(row) - 1) if row[place:place + 2] == (1, 0)]


def once_told(order, place):
    """What is done at a corner by [19], and the order behind it."""
    one, other = order.index(place), order.index(place + 1)
    if abs(one - other) > 1:
        things = list(order)
        things[one], things[other] = place + 1, place
        return ("exchange", tuple(things))
    left = [thing if thing <= place else thing - 1 for thing in order if thing != place + 1]
    return ("car" if other < one else "gap", tuple(left))


def melted_told(order, pick):
    """The stair table, and the number of exchanges, if pick takes one of all corners each time."""
    names = list(range(len(order) - 1))
    marks = []
    exchanges = 0
    while corners_told(order):
        place = pick(corners_told(order))
        word, order = once_told(order, place)
        if word == "exchange":
            names[place], names[place + 1] = names[place + 1], names[place]
            exchanges += 1
        else:
            marks.append((names[place], names[place + 1], word))
            names.pop(place if word == "car" else place + 1)
    return (tuple(sorted(marks)), exchanges)


def all_ends_told(order, names, marks, exchanges):
    """The set of all stair tables, with their exchanges, to which corners taken in any turn lead."""
    corners = corners_told(order)
    if not corners:
        return {(tuple(sorted(marks)), exchanges)}
    found = set()
    for place in corners:
        word, behind = once_told(order, place)
        left = list(names)
        if word == "exchange":
            left[place], left[place + 1] = left[place + 1], left[place]
            found |= all_ends_told(behind, left, marks, exchanges + 1)
        else:
            left.pop(place if word == "car" else place + 1)
            found |= all_ends_told(behind, left, marks + [(names[place], names[place + 1], word)], exchanges)
    return found


def early_tops_told(order):
    return [at for at in range(order.index(max(order))) if order[at] == max(order[:at + 1])]


def dips_told(order):
    greatest = order.index(max(order))
    return [at for at in range(greatest + 1, len(order)) if order[at] == min(order[greatest + 1:at + 1])]


class Once(unittest.TestCase):
    def test_each_corner_of_all_orders(self):
        words = set()
        for order in orders_up_to(6) + long_orders():
            for place in range(len(order)):
                if place in corners_told(order):
                    self.assertEqual(melted_once(order, place), once_told(order, place))
                    words.add(once_told(order, place)[0])
                else:
                    check_error(self, InvalidPlace, melted_once, (order, place))
        self.assertEqual(words, {"exchange", "car", "gap"})

    def test_by_hand(self):
        self.assertEqual(melted_once((1, 0, 2), 0), ("car", (0, 1)))
        self.assertEqual(melted_once((2, 0, 1), 0), ("gap", (1, 0)))
        self.assertEqual(melted_once((1, 2, 0), 0), ("exchange", (0, 2, 1)))


class Melting(unittest.TestCase):
    def test_all_orders(self):
        for order in orders_up_to(6) + long_orders():
            table, exchanges = melted_told(order, max)
            self.assertEqual(melted(order), (row_by_falls(order), table))
            self.assertEqual(count_exchanges(order), exchanges)
            self.assertIs(is_table(row_by_falls(order), table), True)

    def test_it_is_the_same_table_whichever_corner_is_taken_first(self):
        for order in orders_up_to(5):
            told = {(melted(order)[1], count_exchanges(order))}
            self.assertEqual(all_ends_told(order, list(range(len(order) - 1)), [], 0), told)
        chance = random.Random(3)
        for order in orders_of(7)[::50] + long_orders():
            told = (melted(order)[1], count_exchanges(order))
            for pick in (min, max, chance.choice, chance.choice):
                self.assertEqual(melted_told(order, pick), told)

    def test_one_to_one_to_all_stair_tables(self):
        for places in range(1, 6):
            self.assertEqual(sorted(melted(order) for order in orders_of(places + 1)), all_tables(places))

    def test_orders_of_two_things(self):
        self.assertEqual(melted((0, 1)), ((0,), ()))
        self.assertEqual(melted((1, 0)), ((1,), ()))
        self.assertEqual(melted_back((0,), ()), (0, 1))
        self.assertEqual(melted_back((1,), ()), (1, 0))
        check_error(self, InvalidPlace, melted_once, ((0, 1), 0))
        check_error(self, InvalidPlace, melted_once, ((1, 0), 0))


class Back(unittest.TestCase):
    def test_orders_there_and_back(self):
        for order in orders_up_to(6) + orders_of(7)[::17] + long_orders():
            row, table = melted(order)
            self.assertEqual(melted_back(row, table), order)

    def test_tables_there_and_back(self):
        pairs = [pair for places in range(1, 5) for pair in all_tables(places)]
        pairs += [((1, 0, 1, 0, 1, 0, 0), table) for table in tables_of((1, 0, 1, 0, 1, 0, 0))[::9]]
        for row, table in pairs + LONG_TABLES:
            order = melted_back(row, table)
            self.assertEqual(len(order), len(row) + 1)
            self.assertEqual(melted(order), (row, table))

    def test_rows_without_corners(self):
        self.assertEqual(melted_back((0,) * 12, ()), tuple(range(13)))
        self.assertEqual(melted_back((1,) * 12, ()), tuple(range(12, -1, -1)))
        self.assertEqual(melted_back((0, 0, 1, 1), ()), (0, 1, 4, 3, 2))


class Weights(unittest.TestCase):
    def test_early_tops_and_dips(self):
        for order in orders_up_to(6) + long_orders():
            self.assertEqual(early_tops(order), early_tops_told(order))
            self.assertEqual(dips_of(order), dips_told(order))

    def test_the_melting_weight_is_the_weight_of_the_table(self):
        for order in orders_up_to(6) + long_orders():
            told = (count_exchanges(order), len(early_tops_told(order)), len(dips_told(order)), 1)
            self.assertEqual(melting_weight(order), (told,))
            self.assertEqual(melting_weight(order), table_weight(*melted(order)))

    def test_melting_weights_come_to_the_weight_of_the_row(self):
        for places in range(1, 6):
            found = {row: {} for row in all_rows(places)}
            for order in orders_of(places + 1):
                row = row_by_falls(order)
                found[row] = oracles.added(found[row], oracles.totals(melting_weight(order)))
            for row in all_rows(places):
                self.assertEqual(row_weight(row), oracles.terms(found[row]))

    def test_lists_are_new(self):
        for function in (early_tops, dips_of):
            order = (3, 0, 4, 1, 2)
            told = list(function(order))
            function(order).append(9)
            self.assertEqual(function(order), told)


class Alike(unittest.TestCase):
    def test_the_same_table_by_walks_and_by_melting(self):
        for order in orders_up_to(6) + long_orders():
            alike = order_alike(order)
            self.assertEqual(melted(alike), table_by_walks(order))
            self.assertEqual(order_by_walks(*melted(alike)), order)

    def test_one_to_one(self):
        for things in range(2, 7):
            self.assertEqual(sorted(order_alike(order) for order in orders_of(things)), orders_of(things))


class Wrong(unittest.TestCase):
    def test_errors_in_order(self):
        orders = ((2, 0, 1), InvalidOrder, NO_ORDERS)
        for function in (melted, count_exchanges, early_tops, dips_of, melting_weight, order_alike):
            check_arguments(self, function, orders)
        no_corners = NO_INTEGERS + [1, 2, 3, -1, -2, BIG, -BIG]
        check_arguments(self, melted_once, orders, (0, InvalidPlace, no_corners))
        # the place 1 is a corner here, so True must not be taken for it
        check_arguments(self, melted_once, ((3, 0, 4, 1, 2), InvalidOrder, NO_ORDERS),
                        (1, InvalidPlace, NO_INTEGERS + [0, 2, 3, 4, -1]))
        check_arguments(self, melted_back, (C, InvalidRow, WRONG_ROWS), (T, InvalidTable, NO_TABLES))
        check_error(self, InvalidTable, melted_back, (B, ((0, 1, "car"),)))
        check_error(self, InvalidTable, melted_back, (A, [(0, 1, "car")]))


if __name__ == "__main__":
    unittest.main()
