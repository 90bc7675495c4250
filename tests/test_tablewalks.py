"""Walks through stair tables: [18], [60], and the guarantees on them in [3]."""

import unittest

from hoproads.errors import InvalidOrder, InvalidPlace, InvalidRow, InvalidTable
from hoproads.orders import crossing_weight, row_by_crossings
from hoproads.stairs import is_table, mirrored_row, mirrored_table, table_weight
from hoproads.stairlists import all_tables, table_with
from hoproads.tablewalks import mirrored_order, order_by_walks, table_by_walks, turning_cells, walk_from
from tests import oracles
from tests.support import A, B, BIG, C, WRONG_ROWS, check_arguments, check_error, wrong_numbers
from tests.test_orders import NO_ORDERS, long_orders, orders_of, orders_up_to
from tests.test_stairs import NO_TABLES

T = ((0, 1, "gap"), (2, 3, "car"))
LONG_TABLES = [
    ((1,) * 6 + (0,) * 6, ((0, 6, "gap"), (1, 7, "gap"), (1, 9, "car"), (3, 8, "car"))),
    ((1, 0) * 6, ()),
    ((1, 0) * 6, ((0, 1, "car"), (2, 11, "gap"), (4, 7, "gap"), (4, 9, "car"))),
    ((0, 1) * 6, ((1, 2, "gap"), (3, 6, "gap"), (5, 10, "car"))),
    ((0,) * 12, ()),
    ((1,) * 12, ()),
]


def turning_told(row, table):
    lost = oracles.lost_told(row, table)
    words = {mark[:2]: mark[2] for mark in table}
    struck = {gap for car, gap, word in table if word == "gap"}
    found = {(0, gap + 1) for gap, item in enumerate(row) if item == 0 and gap not in struck}
    for car, gap in oracles.cells_told(row):
        if (car, gap) not in lost and words.get((car, gap)) != "car":
            found.add((car + 1, gap + 1))
    return sorted(found)


def walk_told(row, table, step):
    """The walk from a step, cell by cell."""
    turning = set(turning_told(row, table))
    items = (1,) + row
    cars = [some for some in range(len(items)) if items[some] == 1]
    gaps = [some for some in range(len(items)) if items[some] == 0]

    def cells_ahead(along_car, car, gap):
        """The cells on the way, from behind the cell (car, gap) on; None stands for the outside."""
        if along_car:
            return [(car, some) for some in reversed(gaps) if some > car and (gap is None or some < gap)]
        return [(some, gap) for some in cars if some < gap and (car is None or some > car)]

    along_car = items[step] == 1
    car, gap = (step, None) if along_car else (None, step)
    turns = []
    ahead = cells_ahead(along_car, car, gap)
    while ahead:
        car, gap = ahead.pop(0)
        if (car, gap) in turning:
            turns.append((car, gap))
            along_car = not along_car
            ahead = cells_ahead(along_car, car, gap)
    return (tuple(turns), car if along_car else gap)


def some_tables():
    """All stair tables of up to 4 places, and some of longer rows."""
    found = [pair for places in range(1, 5) for pair in all_tables(places)]
    found += all_tables(5)[::7] + [table_with(6, number) for number in range(0, 5040, 101)]
    return found + LONG_TABLES


class Walks(unittest.TestCase):
    def test_the_long_tables_are_tables(self):
        for row, table in LONG_TABLES:
            self.assertIs(is_table(row, table), True)

    def test_turning_cells_and_walks(self):
        for row, table in some_tables():
            self.assertEqual(turning_cells(row, table), turning_told(row, table))
            walks = [walk_told(row, table, step) for step in range(len(row) + 1)]
            for step, told in enumerate(walks):
                self.assertEqual(walk_from(row, table, step), told)
            self.assertEqual(order_by_walks(row, table), tuple(end for _, end in walks))

    def test_lists_are_new(self):
        turning_cells(C, T).clear()
        self.assertEqual(len(turning_cells(C, T)), 3)

    def test_the_row_is_the_row_by_crossings_and_the_weight_the_crossing_weight(self):
        for row, table in some_tables():
            order = order_by_walks(row, table)
            self.assertEqual(sorted(order), list(range(len(row) + 1)))
            self.assertEqual(row_by_crossings(order), row)
            self.assertEqual(crossing_weight(order), table_weight(row, table))

    def test_one_to_one(self):
        for places in range(1, 6):
            found = sorted(order_by_walks(row, table) for row, table in all_tables(places))
            self.assertEqual(found, orders_of(places + 1))


class Back(unittest.TestCase):
    def test_tables_there_and_back(self):
        for row, table in some_tables():
            self.assertEqual(table_by_walks(order_by_walks(row, table)), (row, table))

    def test_orders_there_and_back(self):
        for order in orders_up_to(6) + long_orders():
            row, table = table_by_walks(order)
            self.assertIs(is_table(row, table), True)
            self.assertEqual(row, row_by_crossings(order))
            self.assertEqual(order_by_walks(row, table), order)

    def test_mirrored_orders(self):
        for row, table in some_tables():
            told = order_by_walks(mirrored_row(row), mirrored_table(row, table))
            self.assertEqual(mirrored_order(order_by_walks(row, table)), told)
        for order in orders_up_to(6) + long_orders():
            self.assertEqual(mirrored_order(mirrored_order(order)), order)


class Wrong(unittest.TestCase):
    def test_errors_in_order(self):
        rows = (C, InvalidRow, WRONG_ROWS)
        tables = (T, InvalidTable, NO_TABLES)
        for function in (turning_cells, order_by_walks):
            check_arguments(self, function, rows, tables)
            check_error(self, InvalidTable, function, (B, ((0, 1, "car"),)))
        for step in (0, 4):
            check_arguments(self, walk_from, rows, tables, (step, InvalidPlace, wrong_numbers(0, 4)))
        for function in (table_by_walks, mirrored_order):
            check_arguments(self, function, ((2, 0, 1), InvalidOrder, NO_ORDERS))
        check_error(self, InvalidPlace, walk_from, (A, (), 3))
        check_error(self, InvalidPlace, walk_from, (A, (), BIG))


if __name__ == "__main__":
    unittest.main()
