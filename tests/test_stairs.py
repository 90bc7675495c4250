"""Stair tables: [9], [10], [51], and the guarantees on them in [3]."""

import itertools
import unittest

from hoproads.errors import InvalidRow, InvalidTable
from hoproads.stairs import (cells_of, is_table, lost_cells, mirrored_row, mirrored_table, open_cells, struck_cars,
                             struck_gaps, table_weight)
from hoproads.weights import row_weight
from tests import oracles
from tests.support import A, B, BIG, C, STRAYS, WRONG_ROWS, check_arguments, check_error, rows_up_to

T = ((0, 1, "gap"), (2, 3, "car"))

# none of these is a stair table of the row C
NO_TABLES = STRAYS + [
    list(T), [], ((0, 1),), ((0, 1, "gap", 0),), ([0, 1, "gap"],), ((0, 1, "Car"),), ((0, 1, ""),), ((0, 1, None),),
    ((0, 1, 1),), ((False, 1, "gap"),), ((0, True, "gap"),), ((False, True, "gap"),), ((0, 2, "car"),),
    ((1, 3, "car"),), ((1, 0, "car"),), ((2, 1, "car"),), ((0, 4, "car"),), ((-1, 1, "car"),), ((0, BIG, "car"),),
    ((2, 3, "car"), (0, 1, "gap")), ((0, 1, "gap"), (0, 1, "gap")), ((0, 1, "car"), (0, 1, "gap")),
    ((0, 1, "gap"), (0, 1, "car")), ((0, 1, "car"), (0, 3, "gap")), ((0, 1, "car"), (0, 3, "car")),
    ((0, 3, "car"), (2, 3, "gap")), ((0, 3, "gap"), (2, 3, "gap")), ((0, 1, "gap"), None), ((0, 1, "gap"), "car"),
    ("01g",), (("0", "1", "gap"),), ((0, 1, "gap"), (2, 3, "car"), (2, 3, "car")), (((0, 1), "gap"),), T + ((0, 3, "car"),),
]


class Cells(unittest.TestCase):
    def test_cells_of_all_rows(self):
        for row in rows_up_to(7) + [(1,) * 6 + (0,) * 6, (0, 1) * 6]:
            self.assertEqual(cells_of(row), sorted(oracles.cells_told(row)))
        self.assertEqual(cells_of((0, 0, 1)), [])
        self.assertEqual(len(cells_of((1,) * 6 + (0,) * 6)), 36)

    def test_mirrored_rows(self):
        for row in rows_up_to(6) + [(1, 1, 0) * 4]:
            places = len(row)
            told = tuple(1 - row[places - 1 - place] for place in range(places))
            self.assertEqual(mirrored_row(row), told)
            self.assertEqual(mirrored_row(mirrored_row(row)), row)


class IsTable(unittest.TestCase):
    def test_all_choices_of_marks(self):
        for row in rows_up_to(4) + [(1, 1, 0, 1, 0), (1, 0, 1, 0, 0)]:
            cells = oracles.cells_told(row)
            told = set(oracles.tables_told(row))
            for words in itertools.product((None, "car", "gap"), repeat=len(cells)):
                table = tuple(cell + (word,) for cell, word in zip(cells, words) if word)
                self.assertIs(is_table(row, table), table in told, (row, table))
                if len(table) > 1:
                    self.assertIs(is_table(row, table[::-1]), False)
                if table:
                    self.assertIs(is_table(row, list(table)), False)

    def test_what_is_none(self):
        for value in NO_TABLES:
            self.assertIs(is_table(C, value), False, value)
        for value in NO_TABLES:
            self.assertIs(is_table((0,), value), False, value)

    def test_a_table_of_another_row(self):
        self.assertIs(is_table(A, ((0, 1, "gap"),)), True)
        self.assertIs(is_table(B, ((0, 1, "gap"),)), False)
        self.assertIs(is_table(B, ((1, 2, "gap"),)), True)

    def test_the_table_without_marks(self):
        for row in rows_up_to(5) + [(1, 0) * 6]:
            self.assertIs(is_table(row, ()), True)

    def test_tables_of_the_longest_rows(self):
        row = (1,) * 6 + (0,) * 6
        self.assertIs(is_table(row, tuple((car, 11, "car") for car in range(6))), True)
        self.assertIs(is_table(row, tuple((0, gap, "gap") for gap in range(6, 12))), True)
        self.assertIs(is_table(row, ((0, 6, "car"), (1, 11, "gap"))), True)
        self.assertIs(is_table(row, ((0, 6, "car"), (1, 6, "gap"))), False)
        self.assertIs(is_table(row, ((0, 6, "gap"), (1, 6, "car"))), True)


class Tables(unittest.TestCase):
    def test_cells_strikes_and_weights(self):
        for row in rows_up_to(5):
            if len(oracles.cells_told(row)) > 5:
                continue
            for table in oracles.tables_told(row):
                lost = oracles.lost_told(row, table)
                marked = {mark[:2] for mark in table}
                self.assertEqual(lost_cells(row, table), sorted(lost))
                self.assertEqual(open_cells(row, table),
                                 [cell for cell in oracles.cells_told(row) if cell not in lost | marked])
                self.assertEqual(struck_cars(row, table), sorted(mark[0] for mark in table if mark[2] == "car"))
                self.assertEqual(struck_gaps(row, table), sorted(mark[1] for mark in table if mark[2] == "gap"))
                self.assertEqual(table_weight(row, table), oracles.table_weight_told(row, table))

    def test_struck_gaps_are_ascending(self):
        row, table = (1, 1, 0, 0), ((0, 3, "gap"), (1, 2, "gap"))
        self.assertEqual(struck_gaps(row, table), [2, 3])
        self.assertEqual(struck_cars(row, table), [])
        self.assertEqual(struck_cars(row, ((0, 3, "car"), (1, 2, "car"))), [0, 1])
        self.assertEqual(lost_cells(row, table), [(0, 2)])
        self.assertEqual(open_cells(row, table), [(1, 3)])
        self.assertEqual(table_weight(row, table), ((1, 0, 2, 1),))

    def test_weights_of_all_tables_come_to_that_of_the_row(self):
        for row in rows_up_to(5):
            if len(oracles.cells_told(row)) <= 5:
                told = oracles.added(*[oracles.totals(table_weight(row, table)) for table in oracles.tables_told(row)])
                self.assertEqual(row_weight(row), oracles.terms(told))

    def test_mirrored_tables(self):
        for row in rows_up_to(5):
            if len(oracles.cells_told(row)) > 5:
                continue
            last = len(row) - 1
            for table in oracles.tables_told(row):
                told = tuple(sorted((last - gap, last - car, {"car": "gap", "gap": "car"}[word])
                                    for car, gap, word in table))
                mirrored = mirrored_table(row, table)
                self.assertEqual(mirrored, told)
                self.assertIs(is_table(mirrored_row(row), mirrored), True)
                self.assertEqual(mirrored_table(mirrored_row(row), mirrored), table)
                ((still_open, gaps, cars, many),) = table_weight(row, table)
                self.assertEqual(table_weight(mirrored_row(row), mirrored), ((still_open, cars, gaps, many),))


class Wrong(unittest.TestCase):
    def test_errors_in_order(self):
        rows = (C, InvalidRow, WRONG_ROWS)
        tables = (T, InvalidTable, NO_TABLES)
        check_arguments(self, cells_of, rows)
        check_arguments(self, mirrored_row, rows)
        check_arguments(self, is_table, rows, (T, None, [None]))
        for function in (open_cells, lost_cells, struck_cars, struck_gaps, table_weight, mirrored_table):
            check_arguments(self, function, rows, tables)
            check_error(self, InvalidTable, function, (B, ((0, 1, "car"),)))


if __name__ == "__main__":
    unittest.main()
