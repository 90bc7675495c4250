"""Ordered sums: [12], [54], and the guarantees on them in [3]."""

import math
import unittest

from hoproads.errors import InvalidNumber, InvalidSum
from hoproads.weights import whole_weight
from hoproads.words import ordered, word_weight
from hoproads.wordsums import (is_ordered_sum, power_of_both, sum_added, sum_at, sum_mirrored, sum_times, sum_weight)
from tests import oracles
from tests.support import BIG, STRAYS, check_arguments, check_error, wrong_numbers
from tests.test_words import words_of, words_up_to

MOST = 10 ** 30
MOST_FACTOR = 10 ** 12
FULL = tuple((i, j, x, MOST) for i in range(51, 61) for j in range(56, 61) for x in range(191, 201))
FACTOR = tuple((i, j, x, MOST_FACTOR) for i in (5, 6) for j in (3, 4, 5, 6) for x in range(51, 61))

NO_SUMS = STRAYS + [
    ((61, 0, 0, 1),), ((0, 61, 0, 1),), ((0, 0, 201, 1),), ((0, 0, 0, MOST + 1),), ((0, 0, 0, BIG),), ((0, 0, 0, 0),),
    ((0, 0, 0, -1),), ((-1, 0, 0, 1),), ((0, -1, 0, 1),), ((0, 0, -1, 1),), ((0, 0, 0),), ((0, 0, 0, 1, 1),),
    [(0, 0, 0, 1)], ([0, 0, 0, 1],), (0, 0, 0, 1), ((0, 0, 0, True),), ((True, 0, 0, 1),), ((0, False, 0, 1),),
    ((0, 0, False, 1),), ((0, 0, 0, 1), (0, 0, 0, 1)), ((0, 0, 0, 1), (0, 0, 0, 2)), ((1, 0, 0, 1), (0, 0, 0, 1)),
    ((0, 1, 0, 1), (0, 0, 1, 1)), ((0, 0, 1, 1), (0, 0, 0, 1)), ((0, 0, 0, "1"),), ((0, 0, 0, 1), None), "DE",
    ((0, 0, 0, 1),) + FULL,
]

NO_FACTORS = NO_SUMS + [
    ((7, 0, 0, 1),), ((0, 7, 0, 1),), ((0, 0, 61, 1),), ((0, 0, 0, MOST_FACTOR + 1),), ((0, 0, 0, 1),) + FACTOR,
]


def product_told(one, two):
    """The product of two ordered sums by [12], each pair of words put in order for itself."""
    parts = []
    known = {}
    for i, j, x, many in one:
        for k, l, y, more in two:
            told = oracles.sum_told("E" * i + "D" * j + "E" * k + "D" * l, 0, known)
            parts.append({(s, t, z + x + y): some * many * more for (s, t, z), some in told.items()})
    return oracles.terms(oracles.added(*parts))


class IsSum(unittest.TestCase):
    def test_sums_within_the_bounds(self):
        self.assertEqual(len(FULL), 500)
        for value in ((), ((0, 0, 0, 1),), ((60, 60, 200, MOST),), FULL, ordered("DEDEDE")):
            self.assertIs(is_ordered_sum(value), True)

    def test_what_is_none(self):
        for value in NO_SUMS:
            self.assertIs(is_ordered_sum(value), False, value)
        self.assertIs(is_ordered_sum(ordered("D" * 6 + "E" * 6)), False)


class Added(unittest.TestCase):
    def test_sums(self):
        for one in words_up_to(4):
            for two in ("", "DE", "DDEE", "EDDE"):
                told = oracles.terms(oracles.added(oracles.sum_told(one), oracles.sum_told(two)))
                self.assertEqual(sum_added(ordered(one), ordered(two)), told)

    def test_sums_can_go_beyond_the_bounds(self):
        self.assertEqual(sum_added(FULL, FULL), tuple(term[:3] + (2 * MOST,) for term in FULL))
        self.assertEqual(sum_added(FULL, ((0, 0, 0, 1),)), ((0, 0, 0, 1),) + FULL)
        self.assertEqual(sum_added((), ()), ())
        self.assertEqual(sum_added(FULL, ()), FULL)


class Times(unittest.TestCase):
    def test_words_one_behind_the_other(self):
        for one in words_up_to(4):
            for two in words_up_to(3):
                self.assertEqual(sum_times(ordered(one), ordered(two)), ordered(one + two))

    def test_products_of_any_sums(self):
        one = ((0, 0, 3, 5), (0, 2, 0, 1), (1, 2, 0, 7), (1, 3, 1, 2), (3, 0, 60, MOST_FACTOR))
        two = ((0, 1, 0, 4), (1, 0, 2, 1), (1, 2, 0, 3), (4, 0, 0, 1), (4, 2, 5, 9))
        self.assertEqual(sum_times(one, two), product_told(one, two))
        self.assertEqual(sum_times(two, one), product_told(two, one))
        for some in (one, two):
            self.assertEqual(sum_times(some, ()), ())
            self.assertEqual(sum_times((), some), ())
            self.assertEqual(sum_times(some, ordered("")), some)
            self.assertEqual(sum_times(ordered(""), some), some)

    def test_the_greatest_factors(self):
        self.assertEqual(len(FACTOR), 80)
        self.assertEqual(sum_times(FACTOR, FACTOR[-3:]), product_told(FACTOR, FACTOR[-3:]))
        self.assertEqual(sum_times(FACTOR[:3], FACTOR), product_told(FACTOR[:3], FACTOR))
        greatest = ((6, 6, 60, MOST_FACTOR),)
        told = tuple((i + 6, j + 6, x + 120, many * MOST_FACTOR ** 2) for i, j, x, many in ordered("D" * 6 + "E" * 6))
        self.assertEqual(sum_times(greatest, greatest), told)
        at_one = sum(term[3] for term in sum_times(FACTOR, FACTOR))
        ends = {j: {i: sum(oracles.sum_told("D" * j + "E" * i).values()) for i in (5, 6)} for j in (3, 4, 5, 6)}
        self.assertEqual(at_one, sum(ends[one[1]][two[0]] * MOST_FACTOR ** 2 for one in FACTOR for two in FACTOR))

    def test_bounds_of_both_factors(self):
        for wrong in ((7, 0, 0, 1), (0, 7, 0, 1), (0, 0, 61, 1), (0, 0, 0, MOST_FACTOR + 1)):
            self.assertIs(is_ordered_sum((wrong,)), True)
            check_error(self, InvalidSum, sum_times, ((wrong,), ()))
            check_error(self, InvalidSum, sum_times, ((), (wrong,)))


class Powers(unittest.TestCase):
    def test_sums_of_all_words(self):
        for letters in range(8):
            known = {}
            told = oracles.terms(oracles.added(*[oracles.sum_told(word, 0, known) for word in words_of(letters)]))
            self.assertEqual(power_of_both(letters), told)

    def test_the_greatest_number_of_letters(self):
        for letters in (8, 9):
            self.assertEqual(sum(term[3] for term in power_of_both(letters)), math.factorial(letters + 1))
            told = tuple(sorted((i, j, x, many) for x, i, j, many in whole_weight(letters)))
            self.assertEqual(power_of_both(letters), told)


class Values(unittest.TestCase):
    def test_weights(self):
        for word in words_up_to(6):
            self.assertEqual(sum_weight(ordered(word)), word_weight(word))
        for letters in range(1, 7):
            self.assertEqual(sum_weight(power_of_both(letters)), whole_weight(letters))
        self.assertEqual(sum_weight(()), ())
        self.assertEqual(sum_weight(FULL), tuple(sorted((x, i, j, many) for i, j, x, many in FULL)))

    def test_mirrored(self):
        for some in (ordered("DDEDE"), FULL, (), ((0, 5, 1, 2), (1, 0, 0, 1))):
            self.assertEqual(sum_mirrored(some), tuple(sorted((j, i, x, many) for i, j, x, many in some)))
            self.assertEqual(sum_mirrored(sum_mirrored(some)), some)

    def test_at_a_number(self):
        for some in (ordered("DDEDE"), FULL, (), ((0, 0, 200, 3),), ((0, 0, 0, 2), (0, 0, 1, 1), (2, 1, 5, 1))):
            for number in (0, 1, 2, 7, 1000):
                told = {}
                for i, j, x, many in some:
                    told[(i, j)] = told.get((i, j), 0) + many * number ** x
                told = tuple(sorted(key + (many,) for key, many in told.items() if many))
                self.assertEqual(sum_at(some, number), told)

    def test_terms_that_come_to_0_are_left_out(self):
        self.assertEqual(sum_at(((0, 1, 2, 5), (1, 0, 0, 3), (1, 0, 4, 9)), 0), ((1, 0, 3),))
        self.assertEqual(sum_at(((0, 1, 2, 5),), 0), ())


class Wrong(unittest.TestCase):
    def test_errors_in_order(self):
        sums = (((0, 1, 0, 1),), InvalidSum, NO_SUMS)
        factors = (((0, 1, 0, 1),), InvalidSum, NO_FACTORS)
        check_arguments(self, sum_added, sums, sums)
        check_arguments(self, sum_times, factors, factors)
        check_arguments(self, sum_times, (FACTOR[:1], InvalidSum, NO_FACTORS), ((), InvalidSum, NO_FACTORS))
        check_arguments(self, power_of_both, (0, InvalidNumber, wrong_numbers(0, 9)))
        check_arguments(self, sum_weight, sums)
        check_arguments(self, sum_mirrored, sums)
        check_arguments(self, sum_at, sums, (1000, InvalidNumber, wrong_numbers(0, 1000)))


if __name__ == "__main__":
    unittest.main()
