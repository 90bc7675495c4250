"""Tables of moments, determinants, and steps told by moments: [66], and the guarantees on them in [3]."""

import itertools
import random
import unittest
from fractions import Fraction

from hoproads.errors import InvalidMoments, InvalidNumber, InvalidRates
from hoproads.traildeterminants import determinant, moment_table, steps_told
from tests import oracles
from tests.support import (BELOW, BIG, FALL_RATES, NO_FALL, NO_FRACTIONS, NO_SECOND_FALL, R, S, STRAYS, WIDE,
                           WRONG_RATES, check_arguments, wrong_numbers)
from tests.test_trailbasis import NO_POLYNOMIALS, some_polynomial

ONE = (1, 1)
NO_TABLES = STRAYS + [
    (ONE,), ((ONE,), (ONE,)), ((ONE, ONE),), ((ONE, ONE), (ONE,)), ((), ()), ((ONE, ONE), (ONE, ONE, ONE)), [],
    [[ONE]], [(ONE,)], ([ONE],), ((ONE, ONE), [ONE, ONE]), ((ONE, ONE), "11"), ((ONE, ONE), None), ONE,
    ((ONE,) * 7,) * 7, ((ONE,) * 6,) * 7, ((ONE,) * 7,) * 6, ((),) * 7, ((),),
] + [((value,),) for value in NO_FRACTIONS] + [((ONE, ONE), (ONE, value)) for value in NO_FRACTIONS]
NO_MOMENTS = [value for value in NO_POLYNOMIALS if value != ()] + [
    (), ((0, 1),), ((2, 1), ONE), ((-1, 1),), ((1, 2), ONE), (ONE,) * 14, (ONE,) * 15, [ONE, ONE], ((BIG, 1),),
] + [(ONE, value) for value in NO_FRACTIONS]


def determinant_told(table):
    """The sum of the products of all choices of one item in each row and column, with their signs."""
    total = Fraction(0)
    for order in itertools.permutations(range(len(table))):
        falls = sum(1 for one, other in itertools.combinations(order, 2) if one > other)
        part = Fraction((-1) ** falls)
        for row, column in enumerate(order):
            part *= Fraction(*table[row][column])
        total += part
    return total


def some_table(seed, size, digits):
    return tuple(some_polynomial(seed * 10 + row, size, digits) for row in range(size))


class Tables(unittest.TestCase):
    def test_all_sizes_and_shifts(self):
        for rates in FALL_RATES:
            moments = [oracles.pair(oracles.moment_told(rates, steps)) for steps in range(12)]
            for size in range(7):
                for shift in (0, 1):
                    told = tuple(tuple(moments[i + j + shift] for j in range(size)) for i in range(size))
                    self.assertEqual(moment_table(rates, size, shift), told)
            self.assertEqual(moment_table(rates, 0, 0), ())


class Determinants(unittest.TestCase):
    def test_tables_of_all_sizes(self):
        for size in range(7):
            for seed in range(4):
                table = some_table(seed, size, 2)
                self.assertEqual(determinant(table), oracles.pair(determinant_told(table)))
        self.assertEqual(determinant(()), (1, 1))
        self.assertEqual(determinant((((-3, 7),),)), (-3, 7))

    def test_fractions_of_any_size(self):
        for size in (2, 3):
            table = some_table(size, size, 120)
            self.assertEqual(determinant(table), oracles.pair(determinant_told(table)))

    def test_tables_whose_determinant_is_0(self):
        for size in range(1, 7):
            table = some_table(5, size, 2)
            with_noughts = table[:-1] + (((0, 1),) * size,)
            self.assertEqual(determinant(with_noughts), (0, 1))
            if size > 1:
                self.assertEqual(determinant((table[1],) + table[1:]), (0, 1))
                self.assertEqual(determinant(tuple((row[1],) + row[1:] for row in table)), (0, 1))

    def test_exchanged_rows(self):
        for size in range(2, 7):
            table = some_table(6, size, 2)
            top, below = determinant(table)
            self.assertEqual(determinant((table[1], table[0]) + table[2:]), (-top, below))

    def test_noughts_in_the_first_column(self):
        table = (((0, 1), (1, 1), (0, 1)), ((0, 1), (0, 1), (1, 1)), ((2, 3), (0, 1), (0, 1)))
        self.assertEqual(determinant(table), (2, 3))

    def test_moments_come_to_products_of_fall_weights(self):
        for rates in FALL_RATES:
            for size in range(7):
                told = Fraction(1)
                for height in range(1, size):
                    told *= oracles.fall_told(rates, height) ** (size - height)
                self.assertEqual(determinant(moment_table(rates, size, 0)), oracles.pair(told))
        self.assertEqual(determinant(moment_table(NO_FALL, 2, 0)), (0, 1))
        self.assertEqual(determinant(moment_table(BELOW, 2, 0)), (-2, 1))
        self.assertEqual(determinant(moment_table(NO_SECOND_FALL, 2, 0)), (-2, 1))
        self.assertEqual(determinant(moment_table(NO_SECOND_FALL, 3, 0)), (0, 1))


class Told(unittest.TestCase):
    def test_moments_at_rates_tell_their_steps(self):
        for rates in FALL_RATES:
            moments = tuple(oracles.pair(oracles.moment_told(rates, steps)) for steps in range(13))
            levels = [oracles.pair(oracles.level_told(rates, height)) for height in range(6)]
            falls = [oracles.pair(oracles.fall_told(rates, height)) for height in range(1, 7)]
            if (0, 1) in falls:
                last = falls.index((0, 1)) + 1
                levels, falls = levels[:last], falls[:last]
            for many in range(1, 14):
                told = (tuple(levels[:many // 2]), tuple(falls[:(many - 1) // 2]))
                self.assertEqual(steps_told(moments[:many]), told)

    def test_steps_of_any_kind_are_told(self):
        chance = random.Random(9)
        for turn in range(20):
            kinds = [Fraction(chance.randint(-9, 9), chance.randint(1, 9)) for _ in range(6)]
            falls = [Fraction(chance.choice((-1, 1)) * chance.randint(1, 9), chance.randint(1, 9)) for _ in range(6)]
            if turn >= 10:
                falls[turn % 6] = Fraction(0)
            moments = moments_by(kinds, falls)
            last = falls.index(0) + 1 if 0 in falls else 6
            told = tuple(tuple(oracles.pair(item) for item in items[:last]) for items in (kinds, falls))
            self.assertEqual(steps_told(tuple(oracles.pair(item) for item in moments)), told)

    def test_they_end_behind_a_fall_weight_of_0(self):
        self.assertEqual(steps_told((ONE, (0, 1), (0, 1))), (((0, 1),), ((0, 1),)))
        # whether the moments behind it fit is not asked
        for behind in ((0, 1), (5, 7), (BIG, 1), (-1, BIG)):
            self.assertEqual(steps_told((ONE, (3, 1), (9, 1), behind)), (((3, 1),), ((0, 1),)))
            self.assertEqual(steps_told((ONE, (3, 1), (9, 1)) + (behind,) * 10), (((3, 1),), ((0, 1),)))
        self.assertEqual(steps_told((ONE, (3, 1), (8, 1))), (((3, 1),), ((-1, 1),)))

    def test_fractions_of_any_size(self):
        first, second = (BIG, 2), (-1, BIG)
        told = Fraction(*second) - Fraction(*first) ** 2
        self.assertEqual(steps_told((ONE, first, second)), ((first,), (oracles.pair(told),)))
        self.assertEqual(steps_told((ONE,)), ((), ()))
        self.assertEqual(steps_told((ONE, first)), ((first,), ()))


def moments_by(levels, falls):
    """The moments of 0 to 12 steps by level weights, and by fall weights of the heights from 1 on."""
    found = []
    for steps in range(13):
        weights = {0: Fraction(1)}
        for _ in range(steps):
            behind = {}
            for height, weight in weights.items():
                behind[height + 1] = behind.get(height + 1, 0) + weight
                if height < 6:
                    behind[height] = behind.get(height, 0) + weight * levels[height]
                if 0 < height < 7:
                    behind[height - 1] = behind.get(height - 1, 0) + weight * falls[height - 1]
            weights = behind
        found.append(weights.get(0, Fraction(0)))
    return found


class Wrong(unittest.TestCase):
    def test_errors_in_order(self):
        rates = (S, InvalidRates, WRONG_RATES)
        for size, shift in ((0, 1), (6, 0), (3, 1)):
            check_arguments(self, moment_table, rates, (size, InvalidNumber, wrong_numbers(0, 6)),
                            (shift, InvalidNumber, wrong_numbers(0, 1)))
        check_arguments(self, determinant, (((ONE, ONE), (ONE, (0, 1))), InvalidMoments, NO_TABLES))
        check_arguments(self, steps_told, ((ONE, (3, 1), (9, 1)), InvalidMoments, NO_MOMENTS))
        check_arguments(self, steps_told, ((ONE,) * 13, InvalidMoments, NO_MOMENTS))

    def test_the_rates_of_the_examples(self):
        self.assertEqual(determinant(moment_table(R, 6, 0)), (1, 1))
        self.assertEqual(determinant(moment_table(R, 6, 1)), (7, 1))
        self.assertEqual(moment_table(WIDE, 1, 0), ((ONE,),))


if __name__ == "__main__":
    unittest.main()
