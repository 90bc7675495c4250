"""Blocks of letters D and, behind these, letters E: [55], and the guarantee on them in [3]."""

import unittest

from hoproads.errors import InvalidNumber
from hoproads.wordblocks import block_straight, block_sum, count_block
from hoproads.words import ordered
from tests import oracles
from tests.support import check_arguments, wrong_numbers


def straight_told(cars, gaps):
    """The terms with x = 0, letter by letter: with q = 0 the rule is DE = D + E."""
    behind = {(0, cars): 1}
    for _ in range(gaps):
        told = {}
        for (i, j), many in behind.items():
            # E behind i letters E and j letters D: it takes up letters D until it is taken up itself, or stays
            for left in range(1, j + 1):
                told[(i, left)] = told.get((i, left), 0) + many
            told[(i + 1, 0)] = told.get((i + 1, 0), 0) + many
        behind = told
    return tuple(sorted(key + (many,) for key, many in behind.items()))


def counts_told(cars, most):
    """How many ends the blocks of so many letters D, and of 0, 1 and so on letters E, have, letter by letter."""
    # row j: how many ends with so many letters D come of j letters D with an E behind them, by DE = ED + D + E
    rows = [[1] + [0] * cars]
    for j in range(1, cars + 1):
        ahead = rows[-1]
        rows.append([ahead[at] + (ahead[at - 1] if at else 0) + (1 if at == j else 0) for at in range(cars + 1)])
    ends = [0] * cars + [1]
    found = [1]
    for _ in range(most):
        ends = [sum(ends[j] * rows[j][at] for j in range(cars + 1)) for at in range(cars + 1)]
        found.append(sum(ends))
    return found


class Sums(unittest.TestCase):
    def test_sums_of_all_blocks(self):
        for cars in range(7):
            for gaps in range(7):
                told = oracles.terms(oracles.sum_told("D" * cars + "E" * gaps))
                self.assertEqual(block_sum(cars, gaps), told)
                self.assertEqual(block_sum(cars, gaps), ordered("D" * cars + "E" * gaps))


class Straight(unittest.TestCase):
    def test_the_terms_without_bent_changes(self):
        for cars in range(1, 7):
            for gaps in range(1, 7):
                told = tuple((i, j, many) for i, j, x, many in block_sum(cars, gaps) if x == 0)
                self.assertEqual(block_straight(cars, gaps), told)

    def test_long_blocks(self):
        for cars, gaps in ((7, 9), (1, 60), (60, 1), (60, 60), (59, 13)):
            self.assertEqual(block_straight(cars, gaps), straight_told(cars, gaps))
        self.assertEqual(len(block_straight(60, 60)), 120)


class Counts(unittest.TestCase):
    def test_sums_of_many(self):
        for cars in range(7):
            for gaps in range(7):
                self.assertEqual(count_block(cars, gaps), sum(term[3] for term in block_sum(cars, gaps)))

    def test_long_blocks(self):
        for cars in (0, 1, 7, 33, 59, 60):
            told = counts_told(cars, 60)
            for gaps in (0, 1, 2, 12, 13, 59, 60):
                self.assertEqual(count_block(cars, gaps), told[gaps])


class Wrong(unittest.TestCase):
    def test_errors_in_order(self):
        for function, least, most in ((block_sum, 0, 6), (block_straight, 1, 60), (count_block, 0, 60)):
            for good in (least, most):
                number = (good, InvalidNumber, wrong_numbers(least, most))
                check_arguments(self, function, number, number)


if __name__ == "__main__":
    unittest.main()
