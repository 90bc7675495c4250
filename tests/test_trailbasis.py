"""Polynomials, step polynomials and means: [23], [65], and the guarantees on them in [3]."""

import random
import unittest
from fractions import Fraction

from hoproads.errors import InvalidNumber, InvalidPolynomial, InvalidRates
from hoproads.trailbasis import polynomial_mean, polynomial_product, step_polynomial
from tests import oracles
from tests.support import (BIG, FALL_RATES, NO_FRACTIONS, NO_SECOND_FALL, R, S, STRAYS, WIDE, WRONG_RATES,
                           check_arguments, check_error, wrong_numbers)

NO_POLYNOMIALS = STRAYS + [[], [(1, 1)], ((1, 1), None), "", (1, 1)] + [
    (value,) for value in NO_FRACTIONS] + [((1, 1), (0, 1), value) for value in NO_FRACTIONS]


def fractions_of(polynomial):
    return [Fraction(*item) for item in polynomial]


def polynomial_of(fractions):
    return tuple(oracles.pair(item) for item in fractions)


def steps_told(rates, degree):
    """The step polynomial of a degree by [23], a list of Fractions."""
    found = [[Fraction(1)]]
    for k in range(degree):
        behind = [Fraction(0)] + found[k]
        for power, item in enumerate(found[k]):
            behind[power] -= oracles.level_told(rates, k) * item
        if k > 0:
            for power, item in enumerate(found[k - 1]):
                behind[power] -= oracles.fall_told(rates, k) * item
        found.append(behind)
    return found[degree]


def product_told(one, other):
    found = [Fraction(0)] * (len(one) + len(other) - 1)
    for power, item in enumerate(one):
        for more, some in enumerate(other):
            found[power + more] += item * some
    return found


def some_polynomial(seed, many, digits):
    chance = random.Random(seed)
    most = 10 ** digits - 1
    found = [Fraction(chance.randint(-most, most), chance.randint(1, most)) for _ in range(many)]
    return tuple(oracles.pair(item) for item in found)


class StepPolynomials(unittest.TestCase):
    def test_all_degrees(self):
        for rates in FALL_RATES:
            for degree in range(9):
                found = step_polynomial(rates, degree)
                self.assertEqual(found, polynomial_of(steps_told(rates, degree)))
                self.assertEqual(len(found), degree + 1)
                self.assertEqual(found[-1], (1, 1))

    def test_products_of_two_unlike_ones_have_the_mean_0(self):
        for rates in FALL_RATES:
            some = [step_polynomial(rates, degree) for degree in range(9)]
            for degree in range(9):
                for less in range(degree):
                    self.assertEqual(polynomial_mean(rates, polynomial_product(some[degree], some[less])), (0, 1))

    def test_squares_have_the_product_of_fall_weights_as_mean(self):
        for rates in FALL_RATES:
            told = Fraction(1)
            for degree in range(9):
                if degree > 0:
                    told *= oracles.fall_told(rates, degree)
                square = polynomial_product(step_polynomial(rates, degree), step_polynomial(rates, degree))
                self.assertEqual(polynomial_mean(rates, square), oracles.pair(told))
        self.assertEqual(told, 0)
        self.assertEqual(rates, NO_SECOND_FALL)


class Means(unittest.TestCase):
    def test_each_fraction_times_its_moment(self):
        for rates in FALL_RATES:
            moments = [oracles.moment_told(rates, steps) for steps in range(17)]
            for many in (0, 1, 2, 9, 16, 17):
                some = some_polynomial(many, many, 3)
                told = sum((item * moments[power] for power, item in enumerate(fractions_of(some))), Fraction(0))
                self.assertEqual(polynomial_mean(rates, some), oracles.pair(told))

    def test_single_powers(self):
        for rates in (R, S, WIDE):
            for power in range(17):
                told = oracles.moment_told(rates, power)
                self.assertEqual(polynomial_mean(rates, ((0, 1),) * power + ((1, 1),)), oracles.pair(told))
        self.assertEqual(polynomial_mean(S, ()), (0, 1))
        self.assertEqual(polynomial_mean(S, ((0, 1),) * 17), (0, 1))

    def test_fractions_of_any_size(self):
        some = ((BIG, 2), (-BIG, 10 ** 119), (1, BIG))
        told = sum(item * oracles.moment_told(S, power) for power, item in enumerate(fractions_of(some)))
        self.assertEqual(polynomial_mean(S, some), oracles.pair(told))


class Products(unittest.TestCase):
    def test_products(self):
        for one in range(10):
            for other in range(10):
                first, second = some_polynomial(one, one, 2), some_polynomial(other + 50, other, 2)
                told = () if not one or not other else polynomial_of(
                    product_told(fractions_of(first), fractions_of(second)))
                self.assertEqual(polynomial_product(first, second), told)
                self.assertEqual(polynomial_product(second, first), told)

    def test_noughts_stay(self):
        self.assertEqual(polynomial_product(((0, 1),), ((1, 2), (3, 4))), ((0, 1), (0, 1)))
        self.assertEqual(polynomial_product(((1, 1), (0, 1)), ((1, 1), (0, 1))), ((1, 1), (0, 1), (0, 1)))
        self.assertEqual(polynomial_product(((0, 1),), ()), ())
        self.assertEqual(polynomial_product((), ()), ())

    def test_fractions_of_any_size(self):
        first, second = some_polynomial(1, 9, 120), some_polynomial(2, 9, 120)
        told = polynomial_of(product_told(fractions_of(first), fractions_of(second)))
        self.assertEqual(polynomial_product(first, second), told)


class Wrong(unittest.TestCase):
    def test_errors_in_order(self):
        rates = (S, InvalidRates, WRONG_RATES)
        for degree in (0, 8):
            check_arguments(self, step_polynomial, rates, (degree, InvalidNumber, wrong_numbers(0, 8)))
        check_arguments(self, polynomial_mean, rates,
                        (((1, 2),) * 17, InvalidPolynomial, NO_POLYNOMIALS + [((1, 2),) * 18]))
        factor = (((1, 2),) * 9, InvalidPolynomial, NO_POLYNOMIALS + [((1, 2),) * 10])
        check_arguments(self, polynomial_product, factor, factor)
        # nothing is left of a product with (), but both are looked at
        check_error(self, InvalidPolynomial, polynomial_product, ((), ((2, 2),)))
        check_error(self, InvalidPolynomial, polynomial_product, (((2, 2),), ()))


if __name__ == "__main__":
    unittest.main()
