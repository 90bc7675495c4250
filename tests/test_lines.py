"""Lines: [31], [73], and the guarantees on them in [3]."""

import itertools
import math
import random
import unittest
from collections import Counter

from hoproads.errors import InvalidLine, InvalidNumber, InvalidPlaces, InvalidRow
from hoproads.lines import (all_lines, count_all_lines, count_lines, count_touching, is_line, line_number, line_row,
                            line_weight, line_with, lines_of)
from hoproads.weights import row_weight
from tests import oracles
from tests.support import (BIG, C, NO_INTEGERS, STRAYS, WRONG_PLACES, WRONG_ROWS, all_rows, check_arguments,
                           check_error, check_too_many, rows_up_to, wrong_numbers)

LONG_LINES = [
    tuple(range(1, 31)), (0,) * 30, (0, 1) * 15, (1,) * 30, (1, 2, 3, 3, 2, 0) * 5, tuple(range(30)),
    (1, 2, 3, 4, 5, 6, 7, 8, 9, 10, 10, 9, 0, 0, 1, 1, 2, 3, 1, 2, 3, 4, 4, 4, 5, 0, 0, 0, 1, 2),
]

NO_LINES = [value for value in STRAYS if value not in [(0,) * 13]] + [
    [], [0], (2,), (0, 2), (1, 3), (-1,), (0, -1), (1, 2, 4), (1, 0, 2), (True,), (False,), (0, True), (1, False), (None,),
    ("0",), "0", ((0,),), (0, (1,)), (0,) * 31, tuple(range(31)), (0, 1) * 16, (BIG,), (0, BIG), (0,) * 1000, (1, 2, [3]),
]
NO_PLACES = NO_INTEGERS + [0, -1, -BIG, BIG]


def lines_told(places):
    """The ascending list of all lines of so many places, out of all tuples of heights."""
    found = []
    for line in itertools.product(range(places + 1), repeat=places):
        if all(height <= ahead + 1 for ahead, height in zip((0,) + line, line)):
            found.append(line)
    return found


def row_told(line):
    return tuple(1 if line[at] == (line[at - 1] if at else 0) + 1 else 0 for at in range(len(line)))


def ends_told(line):
    return (line.count(0), line[-1] if line else 0)


def catalan(pairs):
    return math.factorial(2 * pairs) // math.factorial(pairs) // math.factorial(pairs + 1)


class IsLine(unittest.TestCase):
    def test_all_short_tuples(self):
        for places in range(5):
            told = set(lines_told(places))
            for value in itertools.product(range(-1, places + 3), repeat=places):
                self.assertIs(is_line(value), value in told, value)
                self.assertIs(is_line(list(value)), False)

    def test_long_lines(self):
        for line in LONG_LINES:
            self.assertIs(is_line(line), True)
            self.assertIs(is_line(line + (0,)), len(line) < 30)

    def test_what_is_none(self):
        for value in NO_LINES:
            self.assertIs(is_line(value), False, value)


class Rows(unittest.TestCase):
    def test_rows_and_weights(self):
        for line in [line for places in range(6) for line in lines_told(places)] + LONG_LINES:
            self.assertEqual(line_row(line), row_told(line))
            self.assertEqual(line_weight(line), ((0,) + ends_told(line) + (1,),))
        self.assertEqual(line_row(()), ())


class Lists(unittest.TestCase):
    def test_lines_of_all_rows(self):
        for places in range(1, 7):
            lines = lines_told(places)
            for row in all_rows(places):
                told = [line for line in lines if row_told(line) == row]
                self.assertEqual(lines_of(row), told)
                self.assertEqual(count_lines(row), len(told))
                ends = Counter(ends_told(line) for line in told)
                for zeros in range(places + 2):
                    for last in range(places + 2):
                        self.assertEqual(count_touching(row, zeros, last), ends[(zeros, last)])

    def test_long_rows(self):
        for row in ((1, 0) * 5, (1,) * 5 + (0,) * 5, (0,) * 10, (1,) * 10, (1, 1, 0, 1, 0, 0, 1, 0, 0, 0)):
            lines = lines_of(row)
            self.assertEqual(lines, sorted(set(lines)))
            self.assertTrue(all(is_line(line) and row_told(line) == row for line in lines))
            self.assertEqual(count_lines(row), len(lines))
            for (zeros, last), many in Counter(ends_told(line) for line in lines).items():
                self.assertEqual(count_touching(row, zeros, last), many)
        self.assertEqual(sum(count_lines(row) for row in all_rows(10)), catalan(11))
        self.assertEqual(sum(len(lines_of(row)) for row in all_rows(9)), catalan(10))

    def test_too_many_places(self):
        for row in ((0,) * 11, (1,) * 12, (1, 0) * 6):
            check_too_many(self, 10, lines_of, row)
        self.assertEqual(count_lines((1, 0) * 6), sum(
            count_touching((1, 0) * 6, zeros, last) for zeros in range(13) for last in range(13)))
        self.assertEqual(count_lines((1,) * 6 + (0,) * 6), math.comb(12, 6))
        self.assertEqual(count_touching((0,) * 12, 12, 0), 1)
        self.assertEqual(count_touching((1,) * 12, 0, 12), 1)
        self.assertEqual(count_touching((1,) * 12, 30, 30), 0)

    def test_all_lines(self):
        for places in range(1, 8):
            found = all_lines(places)
            if places < 7:
                self.assertEqual(found, lines_told(places))
            self.assertEqual(found, sorted(set(found)))
            self.assertTrue(all(is_line(line) and len(line) == places for line in found))
            self.assertEqual(len(found), catalan(places + 1))
        for places in (8, 9, 12):
            check_too_many(self, 7, all_lines, places)
        check_error(self, InvalidPlaces, all_lines, (13,))

    def test_counts_of_all_lines(self):
        for places in range(1, 201):
            self.assertEqual(count_all_lines(places), catalan(places + 1))

    def test_lists_are_new(self):
        lines_of(C).clear()
        all_lines(2).clear()
        self.assertEqual(len(lines_of(C)), 5)
        self.assertEqual(len(all_lines(2)), 5)


class Numbers(unittest.TestCase):
    def test_there_and_back(self):
        self.assertEqual(line_number(()), 0)
        for places in range(1, 7):
            for number, line in enumerate(lines_told(places)):
                self.assertEqual(line_number(line), number)
                self.assertEqual(line_with(places, number), line)

    def test_long_lines(self):
        chance = random.Random(2)
        for places in (8, 29, 30):
            many = catalan(places + 1)
            numbers = sorted([0, 1, many - 2, many - 1] + [chance.randrange(many) for _ in range(20)])
            lines = [line_with(places, number) for number in numbers]
            self.assertEqual(lines, sorted(lines))
            for number, line in zip(numbers, lines):
                self.assertIs(is_line(line), True)
                self.assertEqual(len(line), places)
                self.assertEqual(line_number(line), number)
            self.assertEqual(lines[0], (0,) * places)
            self.assertEqual(lines[-1], tuple(range(1, places + 1)))
        for line in LONG_LINES:
            self.assertEqual(line_with(30, line_number(line)), line)

    def test_numbers_beyond_the_last_one(self):
        for places in range(1, 31):
            many = catalan(places + 1)
            self.assertEqual(line_with(places, many - 1), tuple(range(1, places + 1)))
            for number in (many, many + 1, -1, BIG):
                check_error(self, InvalidNumber, line_with, (places, number))


class Guarantees(unittest.TestCase):
    def test_without_hops_back_the_weight_of_a_row_is_that_of_its_lines(self):
        for row in rows_up_to(7) + [(1, 0) * 5]:
            told = oracles.added(*[oracles.totals(line_weight(line)) for line in lines_of(row)])
            self.assertEqual(oracles.terms(told), tuple(term for term in row_weight(row) if term[0] == 0))

    def test_ends_with_the_same_sum(self):
        for places in range(1, 7):
            counts = Counter(ends_told(line) for line in all_lines(places))
            by_sum = {}
            for (zeros, last), many in counts.items():
                by_sum.setdefault(zeros + last, set()).add(many)
            self.assertTrue(all(len(many) == 1 for many in by_sum.values()))

    def test_mirrored_rows_have_ends_exchanged(self):
        for row in rows_up_to(6) + [(1, 0) * 6, (0, 1, 1) * 4]:
            mirrored = tuple(1 - item for item in row[::-1])
            for zeros in range(len(row) + 1):
                for last in range(len(row) + 1):
                    self.assertEqual(count_touching(row, zeros, last), count_touching(mirrored, last, zeros))


class Wrong(unittest.TestCase):
    def test_errors_in_order(self):
        for function in (line_row, line_weight, line_number):
            check_arguments(self, function, ((1, 1, 2, 0), InvalidLine, NO_LINES))
        rows = (C, InvalidRow, WRONG_ROWS)
        for function in (lines_of, count_lines):
            check_arguments(self, function, rows)
        for good in (0, 30):
            number = (good, InvalidNumber, wrong_numbers(0, 30))
            check_arguments(self, count_touching, rows, number, number)
        check_arguments(self, all_lines, (2, InvalidPlaces, WRONG_PLACES))
        for places in (1, 200):
            check_arguments(self, count_all_lines, (places, InvalidPlaces, NO_PLACES + [201, 202]))
        check_arguments(self, line_with, (2, InvalidPlaces, NO_PLACES + [31, 32]), (4, InvalidNumber, wrong_numbers(0, 4)))


if __name__ == "__main__":
    unittest.main()
