"""Words and how they are put in order: [11], [12], [53], and the guarantees on words in [3]."""

import itertools
import math
import unittest

from hoproads.errors import InvalidPlace, InvalidRow, InvalidWord
from hoproads.stairlists import count_tables
from hoproads.weights import row_weight
from hoproads.words import (changed, changes_of, is_word, mirrored_word, ordered, row_word, word_row, word_weight)
from tests import oracles
from tests.support import B, C, STRAYS, WRONG_ROWS, check_arguments, check_error, rows_up_to, wrong_numbers

WRONG_WORDS = [value for value in STRAYS if value != ""] + [
    "d", "e", "De", "dE", "DEF", "D E", " DE", "DE ", "DE\n", "D\n", "D" * 13, "E" * 13, "DE" * 6 + "D", "D" * 1000,
    ("D", "E"), ["D"], ("DE",), (), [],
]

LONG = ("DE" * 6, "D" * 6 + "E" * 6, "ED" * 6, "D" * 12, "E" * 12, "DDE" * 4, "DEE" * 4, "DEDDEEEDDDEE")


def words_of(letters):
    return ["".join(word) for word in itertools.product("DE", repeat=letters)]


def words_up_to(letters):
    return [word for many in range(letters + 1) for word in words_of(many)]


class IsWord(unittest.TestCase):
    def test_words(self):
        for word in words_up_to(5) + list(LONG):
            self.assertIs(is_word(word), True)

    def test_what_is_none(self):
        for value in WRONG_WORDS:
            self.assertIs(is_word(value), False, value)


class Ordered(unittest.TestCase):
    def test_whatever_place_is_changed_first(self):
        for pick in (0, 1, 2, -1):
            known = {}
            for word in words_up_to(7):
                self.assertEqual(ordered(word), oracles.terms(oracles.sum_told(word, pick, known)))

    def test_long_words(self):
        for word in LONG:
            for pick in (0, -1):
                self.assertEqual(ordered(word), oracles.terms(oracles.sum_told(word, pick)))

    def test_ordered_words_stay(self):
        for gaps in range(7):
            for cars in range(7):
                self.assertEqual(ordered("E" * gaps + "D" * cars), ((gaps, cars, 0, 1),))

    def test_as_many_ends_as_the_row_has_stair_tables(self):
        for row in rows_up_to(7):
            self.assertEqual(sum(term[3] for term in ordered(row_word(row))), count_tables(row))

    def test_all_words_have_factorial_ends(self):
        for letters in range(8):
            many = sum(term[3] for word in words_of(letters) for term in ordered(word))
            self.assertEqual(many, math.factorial(letters + 1))

    def test_mirrored_words_have_letters_exchanged(self):
        for word in words_up_to(7):
            told = tuple(sorted((j, i, x, many) for i, j, x, many in ordered(word)))
            self.assertEqual(ordered(mirrored_word(word)), told)

    def test_a_longer_word_can_have_more_than_500_terms(self):
        self.assertGreater(len(ordered("D" * 6 + "E" * 6)), 500)


class Changes(unittest.TestCase):
    def test_places(self):
        for word in words_up_to(6) + list(LONG):
            told = [place for place in range(len(word)) if word[place:place + 2] == "DE"]
            self.assertEqual(changes_of(word), told)
            for place in range(len(word)):
                if place in told:
                    ahead, behind = word[:place], word[place + 2:]
                    words = (ahead + "ED" + behind, ahead + "D" + behind, ahead + "E" + behind)
                    self.assertEqual(changed(word, place), words)
                else:
                    check_error(self, InvalidPlace, changed, (word, place))

    def test_true_is_no_place(self):
        self.assertEqual(changes_of("DDE"), [1])
        check_error(self, InvalidPlace, changed, ("DDE", True))
        self.assertEqual(changes_of("DE"), [0])
        check_error(self, InvalidPlace, changed, ("DE", False))
        check_error(self, InvalidPlace, changed, ("", 0))

    def test_lists_are_new(self):
        changes_of("DE").clear()
        self.assertEqual(changes_of("DE"), [0])


class Rows(unittest.TestCase):
    def test_rows_and_words_there_and_back(self):
        for row in rows_up_to(6) + [(1, 0) * 6, (0,) * 12, (1,) * 12]:
            told = "".join("ED"[item] for item in row)
            self.assertEqual(row_word(row), told)
            self.assertEqual(word_row(told), row)

    def test_the_word_without_letters_has_no_row(self):
        check_error(self, InvalidWord, word_row, ("",))
        self.assertEqual(word_weight(""), ((0, 0, 0, 1),))
        self.assertEqual(mirrored_word(""), "")
        self.assertEqual(ordered(""), ((0, 0, 0, 1),))
        self.assertEqual(changes_of(""), [])

    def test_a_words_weight_is_its_rows(self):
        for word in words_up_to(7)[1:] + list(LONG):
            self.assertEqual(word_weight(word), row_weight(word_row(word)))
            with_letters = oracles.terms({(x, i, j): many for i, j, x, many in ordered(word)})
            self.assertEqual(word_weight(word), with_letters)

    def test_mirrored_words(self):
        for word in words_up_to(6) + list(LONG):
            told = "".join({"D": "E", "E": "D"}[letter] for letter in reversed(word))
            self.assertEqual(mirrored_word(word), told)


class Wrong(unittest.TestCase):
    def test_errors_in_order(self):
        words = ("DE", InvalidWord, WRONG_WORDS)
        for function in (ordered, changes_of, word_weight, mirrored_word):
            check_arguments(self, function, words)
        check_arguments(self, word_row, ("DE", InvalidWord, WRONG_WORDS + [""]))
        check_arguments(self, changed, ("DEDE", InvalidWord, WRONG_WORDS),
                        (2, InvalidPlace, [1, 3, 4] + [some for some in wrong_numbers(0, 2) if some != 2]))
        check_arguments(self, row_word, (C, InvalidRow, WRONG_ROWS))
        self.assertEqual(row_word(B), "EDE")


if __name__ == "__main__":
    unittest.main()
