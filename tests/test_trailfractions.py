"""Cut fractions and quotients: [24], [67], and the guarantees on them in [3]."""

import unittest
from fractions import Fraction

from hoproads.errors import InvalidNumber, InvalidPolynomial, InvalidRates
from hoproads.trailfractions import cut_fraction, quotient_row
from tests import oracles
from tests.support import (BIG, FALL_RATES, NO_FALL, R, S, WRONG_RATES, check_arguments, check_error, wrong_numbers)
from tests.test_trailbasis import NO_POLYNOMIALS, fractions_of, polynomial_of, product_told, some_polynomial


def cut_told(rates, depth, height=0):
    """The pair of top and below, lists of Fractions, of the fraction of the heights from one on, by [24]."""
    if depth == 0:
        return ([Fraction(0)], [Fraction(1)])
    top, below = cut_told(rates, depth - 1, height + 1)
    level = product_told([Fraction(0), oracles.level_told(rates, height)], below)
    fall = product_told([Fraction(0), Fraction(0), oracles.fall_told(rates, height + 1)], top)
    told = [Fraction(0)] * max(len(below), len(level), len(fall))
    for power, item in enumerate(below):
        told[power] += item
    for some in (level, fall):
        for power, item in enumerate(some):
            told[power] -= item
    return (below, told)


def stripped(items):
    while len(items) > 1 and items[-1] == 0:
        items = items[:-1]
    return items


def quotient_told(top, below, many):
    """The first coefficients of a series, one after another: what is left of the top, divided by the below."""
    left = fractions_of(top) + [Fraction(0)] * 60
    divisor = fractions_of(below)
    found = []
    for power in range(many):
        found.append(left[power] / divisor[0])
        for more, item in enumerate(divisor):
            left[power + more] -= found[-1] * item
    return polynomial_of(found)


class Cut(unittest.TestCase):
    def test_all_depths(self):
        for rates in FALL_RATES:
            for depth in range(7):
                top, below = cut_told(rates, depth)
                self.assertEqual(cut_fraction(rates, depth), (polynomial_of(stripped(top)), polynomial_of(stripped(below))))
            self.assertEqual(cut_fraction(rates, 0), (((0, 1),), ((1, 1),)))

    def test_no_common_divisor_is_taken_away(self):
        # the fall weight of 1 is 0 here, so all greater heights stand in both
        top, below = cut_fraction(NO_FALL, 2)
        self.assertEqual(top, ((1, 1), (-2, 1)))
        self.assertEqual(below, ((1, 1), (-6, 1), (8, 1)))

    def test_the_quotient_has_the_moments(self):
        for rates in FALL_RATES:
            moments = tuple(oracles.pair(oracles.moment_told(rates, steps)) for steps in range(13))
            for depth in range(7):
                top, below = cut_fraction(rates, depth)
                self.assertEqual(quotient_row(top, below, 2 * depth), moments[:2 * depth])
        for depth in range(7):
            # and not one more, as at R no fall weight is 0
            top, below = cut_fraction(R, depth)
            self.assertNotEqual(quotient_row(top, below, 2 * depth + 1)[-1],
                                oracles.pair(oracles.moment_told(R, 2 * depth)))


class Quotients(unittest.TestCase):
    def test_quotients(self):
        for top, below, many in ((1, 1, 20), (20, 20, 20), (1, 20, 20), (20, 1, 20), (3, 4, 7), (5, 2, 0), (2, 3, 1)):
            for seed in range(5):
                one, other = some_polynomial(seed, top, 1), some_polynomial(seed + 40, below, 1)
                if other[0][0] == 0:
                    other = ((-3, 7),) + other[1:]
                self.assertEqual(quotient_row(one, other, many), quotient_told(one, other, many))
                self.assertEqual(len(quotient_row(one, other, many)), many)

    def test_a_first_fraction_below_nought(self):
        self.assertEqual(quotient_row(((1, 1),), ((-2, 3), (1, 1)), 3), ((-3, 2), (-9, 4), (-27, 8)))

    def test_noughts(self):
        self.assertEqual(quotient_row(((0, 1),), ((5, 1), (1, 1)), 4), ((0, 1),) * 4)
        self.assertEqual(quotient_row(((0, 1), (1, 1)), ((1, 1), (0, 1), (1, 1)), 6),
                         ((0, 1), (1, 1), (0, 1), (-1, 1), (0, 1), (1, 1)))
        self.assertEqual(quotient_row(((1, 1),) * 20, ((1, 1),), 20), ((1, 1),) * 20)

    def test_fractions_of_any_size(self):
        one, other = some_polynomial(3, 5, 120), some_polynomial(4, 5, 120)
        self.assertEqual(quotient_row(one, other, 5), quotient_told(one, other, 5))
        self.assertEqual(quotient_row(((BIG, 1),), ((1, BIG),), 1), ((BIG * BIG, 1),))


class Wrong(unittest.TestCase):
    def test_errors_in_order(self):
        for depth in (0, 6):
            check_arguments(self, cut_fraction, (S, InvalidRates, WRONG_RATES),
                            (depth, InvalidNumber, wrong_numbers(0, 6)))
        wrong = NO_POLYNOMIALS + [(), ((1, 2),) * 21, ((1, 2),) * 22]
        nought = [((0, 1),), ((0, 1), (1, 1)), ((0, 1),) * 20]
        for many in (0, 20):
            check_arguments(self, quotient_row, (((1, 2),) * 20, InvalidPolynomial, wrong),
                            (((1, 2),) * 20, InvalidPolynomial, wrong + nought),
                            (many, InvalidNumber, wrong_numbers(0, 20)))
        check_error(self, InvalidPolynomial, quotient_row, (((0, 1),), ((0, 1),), 0))


if __name__ == "__main__":
    unittest.main()
