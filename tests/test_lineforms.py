"""Spent cars and brackets of lines: [34], [75], and the guarantee on brackets in [3]."""

import itertools
import unittest

from hoproads.errors import InvalidBrackets, InvalidLine, InvalidRow, InvalidSpent
from hoproads.lineforms import brackets_of, is_spent, line_of_brackets, line_of_spent, spent_of
from hoproads.lines import lines_of
from tests.support import BIG, C, STRAYS, WRONG_ROWS, all_rows, check_arguments, check_error, rows_up_to
from tests.test_lines import LONG_LINES, NO_LINES, lines_told, row_told

SHORT_LINES = [line for places in range(7) for line in lines_told(places)]
LINES = SHORT_LINES + LONG_LINES

# none of these is the spent cars of a line under the row C
NO_SPENT = STRAYS + [
    (), (0,), (0, 0, 0), [0, 0], [], (0, 3), (2, 2), (1, 0), (-1, 0), (0, -1), (True, 1), (0, False), (0, True), ("0", 0),
    (None, 0), ((0,), 0), (0, BIG), (-BIG, 0), "00",
]

NO_BRACKETS = STRAYS + [
    "", "(", ")", ")(", "(()", "())", "())(", "(()))", "()(", "( )", "[]", "(a)", "()\n", " ()", "(())(", "()" * 32,
    "(" * 32 + ")" * 32, "()" * 500, ["(", ")"], ("(", ")"), ("()",), ["()"], "(" * 62, ")" * 62,
]


def spent_told(line):
    row = row_told(line)
    return tuple(sum(row[:place]) - line[place] for place in range(len(row)) if row[place] == 0)


def brackets_told(line):
    text = "("
    ahead = 0
    for height in line:
        text += ")" * (ahead + 1 - height) + "("
        ahead = height
    return text + ")" * (ahead + 1)


def is_balanced(text):
    depths = list(itertools.accumulate(1 if sign == "(" else -1 for sign in text))
    return min(depths) >= 0 and depths[-1] == 0


class Spent(unittest.TestCase):
    def test_spent_cars(self):
        for line in LINES:
            self.assertEqual(spent_of(line), spent_told(line))
        self.assertEqual(spent_of(()), ())

    def test_there_and_back(self):
        for row in rows_up_to(6) + [(1, 0) * 5]:
            for line in lines_of(row):
                self.assertEqual(line_of_spent(row, spent_told(line)), line)
                self.assertIs(is_spent(row, spent_told(line)), True)

    def test_all_values(self):
        for row in rows_up_to(5):
            told = {spent_told(line) for line in lines_of(row)}
            self.assertEqual(len(told), len(lines_of(row)))
            for value in itertools.product(range(-1, len(row) + 1), repeat=row.count(0)):
                self.assertIs(is_spent(row, value), value in told)
                if value not in told:
                    check_error(self, InvalidSpent, line_of_spent, (row, value))

    def test_rows_of_12_places(self):
        row = (1, 1, 0) * 4
        self.assertEqual(line_of_spent(row, (0, 3, 6, 6)), (1, 2, 2, 3, 4, 1, 2, 3, 0, 1, 2, 2))
        self.assertEqual(line_of_spent((1,) * 12, ()), tuple(range(1, 13)))
        self.assertEqual(line_of_spent((0,) * 12, (0,) * 12), (0,) * 12)
        self.assertIs(is_spent((0,) * 12, (0,) * 11), False)

    def test_what_is_none(self):
        for value in NO_SPENT:
            self.assertIs(is_spent(C, value), False, value)


class Brackets(unittest.TestCase):
    def test_brackets(self):
        for line in LINES:
            self.assertEqual(brackets_of(line), brackets_told(line))
            self.assertEqual(line_of_brackets(brackets_told(line)), line)
        self.assertEqual(len(brackets_of((0,) * 30)), 62)

    def test_as_many_lines_as_strings_of_brackets(self):
        for pairs in range(1, 7):
            found = []
            for signs in itertools.product("()", repeat=2 * pairs):
                text = "".join(signs)
                if is_balanced(text):
                    found.append(line_of_brackets(text))
                else:
                    check_error(self, InvalidBrackets, line_of_brackets, (text,))
            self.assertEqual(sorted(found), lines_told(pairs - 1))

    def test_31_pairs_and_32(self):
        self.assertEqual(line_of_brackets("()" * 31), (0,) * 30)
        self.assertEqual(line_of_brackets("(" * 31 + ")" * 31), tuple(range(1, 31)))
        check_error(self, InvalidBrackets, line_of_brackets, ("()" * 32,))
        check_error(self, InvalidBrackets, line_of_brackets, ("(" * 32 + ")" * 32,))


class Wrong(unittest.TestCase):
    def test_errors_in_order(self):
        for function in (spent_of, brackets_of):
            check_arguments(self, function, ((1, 1, 2, 0), InvalidLine, NO_LINES))
        check_arguments(self, line_of_spent, (C, InvalidRow, WRONG_ROWS), ((0, 2), InvalidSpent, NO_SPENT))
        check_arguments(self, is_spent, (C, InvalidRow, WRONG_ROWS), ((0, 2), None, NO_SPENT))
        check_arguments(self, line_of_brackets, ("(()(()))()", InvalidBrackets, NO_BRACKETS))

    def test_rows_without_free_places(self):
        for value in STRAYS:
            self.assertIs(is_spent((1, 1), value), False, value)
        for row in all_rows(2):
            self.assertIs(is_spent(row, ()), row == (1, 1))


if __name__ == "__main__":
    unittest.main()
