"""Grids of letters and words: [14], [57], and the guarantee on a word's weight in [3]."""

import unittest

from hoproads.errors import InvalidNumber, InvalidWord
from hoproads.wordgrids import grid_weight, letter_grid, word_grid
from hoproads.words import word_weight
from tests import oracles
from tests.support import BIG, STRAYS, check_arguments, check_error, check_too_many, wrong_numbers
from tests.test_words import LONG, WRONG_WORDS, words_up_to


def letter_told(letter, size):
    """The grid of a letter by [14], with dicts for weights."""
    grid = [[{} for _ in range(size + 1)] for _ in range(size + 1)]
    for column in range(size + 1):
        for row in range(size + 1):
            if letter == "E":
                grid[row][column] = oracles.ONE if row == column + 1 else {}
            elif column == 0:
                grid[row][column] = {(0, 0, 1): 1} if row == 0 else {}
            else:
                bent = oracles.times({(1, 0, 0): 1}, grid[row - 1][column - 1]) if row else {}
                one = oracles.ONE if row == column else {}
                grid[row][column] = oracles.added(grid[row][column - 1], bent, one)
    return grid


def word_told(word, size):
    """The grid of a word by [14], the grids of its letters multiplied from the left to the right."""
    indices = range(size + 1)
    grid = [[oracles.ONE if row == column else {} for column in indices] for row in indices]
    for letter in word:
        other = letter_told(letter, size)
        grid = [[oracles.added(*[oracles.times(grid[row][at], other[at][column]) for at in indices])
                 for column in indices] for row in indices]
    return grid


def frozen(grid):
    return tuple(tuple(oracles.terms(item) for item in row) for row in grid)


class Letters(unittest.TestCase):
    def test_grids_of_all_sizes(self):
        for size in range(13):
            for letter in "DE":
                grid = letter_grid(letter, size)
                self.assertEqual(grid, frozen(letter_told(letter, size)))
                self.assertEqual(len(grid), size + 1)

    def test_the_least_size(self):
        self.assertEqual(letter_grid("E", 0), (((),),))
        self.assertEqual(letter_grid("D", 0), ((((0, 0, 1, 1),),),))


class Words(unittest.TestCase):
    def test_grids_of_all_words(self):
        for word in words_up_to(4) + ["DEDED", "DDDEE", "EEDDE", "DDEEE"]:
            for size in (len(word), 6):
                self.assertEqual(word_grid(word, size), frozen(word_told(word, size)))

    def test_the_word_without_letters(self):
        for size in range(7):
            told = tuple(tuple(((0, 0, 0, 1),) if row == column else () for column in range(size + 1))
                         for row in range(size + 1))
            self.assertEqual(word_grid("", size), told)

    def test_one_letter(self):
        for size in range(1, 7):
            for letter in "DE":
                self.assertEqual(word_grid(letter, size), letter_grid(letter, size))

    def test_too_many(self):
        check_too_many(self, 5, word_grid, "DEDEDE", 6)
        check_too_many(self, 5, word_grid, "DEDEDE", 12)
        check_too_many(self, 5, word_grid, "D" * 12, 12)
        for word in ("", "DE", "DEDED"):
            for size in (7, 12):
                check_too_many(self, 6, word_grid, word, size)
            check_error(self, InvalidNumber, word_grid, (word, 13))
        check_error(self, InvalidNumber, word_grid, ("DEDEDE", 5))
        check_error(self, InvalidNumber, word_grid, ("DEDEDE", 13))
        check_error(self, InvalidWord, word_grid, ("D" * 13, 13))


class Weights(unittest.TestCase):
    def test_the_weight_is_that_of_the_row(self):
        for word in words_up_to(7) + list(LONG):
            self.assertEqual(grid_weight(word), word_weight(word))

    def test_the_sum_over_the_first_column(self):
        for word in words_up_to(5):
            grid = word_told(word, len(word))
            parts = [oracles.times({(0, row, 0): 1}, items[0]) for row, items in enumerate(grid)]
            self.assertEqual(grid_weight(word), oracles.terms(oracles.added(*parts)))


class Wrong(unittest.TestCase):
    def test_errors_in_order(self):
        letters = STRAYS + ["d", "e", "", "DE", "DD", "E ", ("D",), ["E"], 68, 69]
        check_arguments(self, letter_grid, ("D", InvalidWord, letters), (12, InvalidNumber, wrong_numbers(0, 12)))
        check_arguments(self, word_grid, ("DED", InvalidWord, WRONG_WORDS),
                        (3, InvalidNumber, wrong_numbers(0, 12) + [0, 1, 2]))
        check_arguments(self, grid_weight, ("DE", InvalidWord, WRONG_WORDS))
        check_error(self, InvalidNumber, letter_grid, ("E", BIG))


if __name__ == "__main__":
    unittest.main()
