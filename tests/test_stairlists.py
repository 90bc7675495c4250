"""Lists and numbers of stair tables: [52], and the guarantee on their number in [3]."""

import math
import unittest

from hoproads.errors import InvalidNumber, InvalidPlaces, InvalidRow, InvalidTable
from hoproads.stairlists import all_tables, count_all_tables, count_tables, table_number, table_with, tables_of
from hoproads.stairs import is_table
from tests import oracles
from tests.support import (A, B, BIG, C, NO_INTEGERS, STRAYS, WRONG_PLACES, WRONG_ROWS, all_rows, check_arguments,
                           check_error, check_too_many, rows_up_to, wrong_numbers)

T = ((0, 1, "gap"), (2, 3, "car"))
LONG = (1, 0) * 3


class Lists(unittest.TestCase):
    def test_tables_of_all_rows(self):
        for row in rows_up_to(5) + [LONG]:
            if len(oracles.cells_told(row)) <= 6:
                told = oracles.tables_told(row)
                self.assertEqual(tables_of(row), told)
                self.assertEqual(count_tables(row), len(told))

    def test_tables_of_the_greatest_number_of_places(self):
        many = 0
        for row in all_rows(7):
            tables = tables_of(row)
            self.assertEqual(len(tables), count_tables(row))
            self.assertEqual(tables, sorted(set(tables)))
            self.assertTrue(all(is_table(row, table) for table in tables[::7]))
            many += len(tables)
        self.assertEqual(many, math.factorial(8))
        for places in (8, 12):
            check_too_many(self, 7, tables_of, (0,) * places)
            check_too_many(self, 7, tables_of, (1, 0) * (places // 2))

    def test_counts_of_long_rows(self):
        for row in ((1, 0) * 6, (1,) * 6 + (0,) * 6, (0,) * 12, (1,) * 12):
            told = sum(oracles.weight_told(row).values())
            self.assertEqual(count_tables(row), told)
        self.assertEqual(sum(count_tables(row) for row in all_rows(8)), math.factorial(9))

    def test_all_tables(self):
        for places in range(1, 6):
            told = [(row, table) for row in all_rows(places) for table in tables_of(row)]
            self.assertEqual(all_tables(places), told)
            self.assertEqual(len(told), math.factorial(places + 1))
            self.assertEqual(told, sorted(told))
        for places in (6, 12):
            check_too_many(self, 5, all_tables, places)

    def test_lists_are_new(self):
        tables_of(A).clear()
        all_tables(1).clear()
        self.assertEqual(len(tables_of(A)), 3)
        self.assertEqual(len(all_tables(1)), 2)

    def test_count_all_tables(self):
        for places in (1, 2, 3, 12, 13, 59, 60):
            self.assertEqual(count_all_tables(places), math.factorial(places + 1))


class Numbers(unittest.TestCase):
    def test_numbers_there_and_back(self):
        for places in range(1, 6):
            for number, (row, table) in enumerate(all_tables(places)):
                self.assertEqual(table_number(row, table), number)
                self.assertEqual(table_with(places, number), (row, table))

    def test_the_greatest_number_of_places(self):
        told = [(row, table) for row in all_rows(6) for table in tables_of(row)]
        for number in list(range(0, 5040, 97)) + [5039]:
            self.assertEqual(table_with(6, number), told[number])
            self.assertEqual(table_number(*told[number]), number)
        self.assertEqual(table_with(6, 0), ((0,) * 6, ()))
        self.assertEqual(table_with(6, 5039), ((1,) * 6, ()))

    def test_numbers_beyond_the_last_one(self):
        for places in range(1, 7):
            many = math.factorial(places + 1)
            self.assertEqual(table_with(places, many - 1), ((1,) * places, ()))
            for number in (many, many + 1, BIG):
                check_error(self, InvalidNumber, table_with, (places, number))

    def test_too_many_places(self):
        check_too_many(self, 6, table_number, (1,) * 7, ())
        check_too_many(self, 6, table_number, (1, 0) * 6, ((0, 1, "car"),))
        check_error(self, InvalidTable, table_number, ((1, 0) * 6, ((0, 2, "car"),)))
        # a number that is none comes ahead of too many places, one that is too great behind them
        for number in (0, 40319, 40320, BIG):
            check_too_many(self, 6, table_with, 7, number)
        check_too_many(self, 6, table_with, 12, math.factorial(13))
        for number in (-1, True, None):
            check_error(self, InvalidNumber, table_with, (7, number))
        check_error(self, InvalidPlaces, table_with, (13, -1))


class Wrong(unittest.TestCase):
    def test_errors_in_order(self):
        rows = (C, InvalidRow, WRONG_ROWS)
        places = (2, InvalidPlaces, WRONG_PLACES)
        tables = STRAYS + [list(T), T[::-1], ((0, 2, "car"),), ((0, True, "gap"),), ((0, 1, "car"), (0, 3, "gap"))]
        check_arguments(self, tables_of, rows)
        check_arguments(self, count_tables, rows)
        check_arguments(self, all_tables, places)
        check_arguments(self, count_all_tables, (60, InvalidPlaces, NO_INTEGERS + [0, -1, 61, BIG]))
        check_arguments(self, table_number, rows, (T, InvalidTable, tables))
        check_arguments(self, table_with, places, (5, InvalidNumber, wrong_numbers(0, 5)))
        check_error(self, InvalidTable, table_number, (B, T))


if __name__ == "__main__":
    unittest.main()
