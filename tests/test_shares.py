"""Shares and steadiness: [6], [48], and the guarantee on steady shares in [3]."""

import unittest
from fractions import Fraction

from hoproads.errors import InvalidPlaces, InvalidRates, InvalidShares
from hoproads.roads import hop_rate, hopped, hops_of
from hoproads.shares import are_shares, are_steady, unsteady_rows
from hoproads.steady import steady_shares
from tests.support import (ALL_RATES, BIG, R, S, STRAYS, WRONG_PLACES, WRONG_RATES, all_rows, check_arguments,
                           check_error, check_too_many)

H = ((1, 5), (1, 5), (2, 5), (1, 5))

NO_SHARES = STRAYS + [
    (), H[:3], H + ((0, 1),), list(H), ((1, 5), (1, 5), (2, 5), [1, 5]), ((1, 5), (1, 5), (2, 5), (2, 5)),
    ((1, 5), (1, 5), (1, 5), (1, 5)), ((-1, 5), (3, 5), (2, 5), (1, 5)), ((2, 10), (1, 5), (2, 5), (1, 5)),
    ((1, -5), (3, 5), (2, 5), (1, 5)), ((1, 1), (0, 2), (0, 1), (0, 1)), ((True, 1), (0, 1), (0, 1), (0, 1)),
    ((1, True), (0, 1), (0, 1), (0, 1)), ((1, 1), (False, 1), (0, 1), (0, 1)), (1, 0, 0, 0), ((1,), (0,), (0,), (0,)),
    ((1, 1, 1), (0, 1), (0, 1), (0, 1)), ((1, 0), (0, 1), (0, 1), (0, 1)), ("10", "01", "01", "01"),
    ((0, 1), (0, 1), (0, 1), (0, 1)), ((1, BIG), (BIG - 2, BIG), (0, 1), (0, 1)), (None, (1, 1), (0, 1), (0, 1)),
]


def pairs(shares):
    return tuple((share.numerator, share.denominator) for share in shares)


def unsteady_told(rates, places, shares):
    """The rows for which what leads away and what leads to them differ, straight from the definition."""
    rows = all_rows(places)
    told = {row: Fraction(*share) for row, share in zip(rows, shares)}
    found = []
    for row in rows:
        away = told[row] * sum(Fraction(*hop_rate(rates, hop)) for hop in hops_of(row))
        to = sum(Fraction(*hop_rate(rates, hop)) * told[other]
                 for other in rows if other != row for hop in hops_of(other) if hopped(other, hop) == row)
        if away != to:
            found.append(row)
    return found


def solved(rates, places):
    """The only shares that are steady, by solving the equations."""
    rows = all_rows(places)
    many = len(rows)
    table = [[Fraction(0)] * many for _ in rows]
    for at, row in enumerate(rows):
        for hop in hops_of(row):
            rate = Fraction(*hop_rate(rates, hop))
            table[at][at] -= rate
            table[rows.index(hopped(row, hop))][at] += rate
    table[-1] = [Fraction(1)] * many
    sides = [Fraction(0)] * (many - 1) + [Fraction(1)]
    for at in range(many):
        pivot = next(row for row in range(at, many) if table[row][at])
        table[at], table[pivot] = table[pivot], table[at]
        sides[at], sides[pivot] = sides[pivot], sides[at]
        for row in range(many):
            if row != at and table[row][at]:
                factor = table[row][at] / table[at][at]
                table[row] = [one - factor * other for one, other in zip(table[row], table[at])]
                sides[row] -= factor * sides[at]
    return tuple(sides[at] / table[at][at] for at in range(many))


class Shares(unittest.TestCase):
    def test_what_are_shares(self):
        self.assertIs(are_shares(2, H), True)
        self.assertIs(are_shares(1, ((1, 1), (0, 1))), True)
        self.assertIs(are_shares(1, ((1, BIG), (BIG - 1, BIG))), True)
        self.assertIs(are_shares(6, ((1, 64),) * 64), True)
        self.assertIs(are_shares(6, ((0, 1),) * 63 + ((1, 1),)), True)

    def test_what_are_none(self):
        for value in NO_SHARES:
            self.assertIs(are_shares(2, value), False, value)
        self.assertIs(are_shares(6, ((1, 64),) * 63), False)
        self.assertIs(are_shares(3, H), False)

    def test_places(self):
        check_arguments(self, are_shares, (2, InvalidPlaces, WRONG_PLACES), (H, None, [None]))
        check_too_many(self, 6, are_shares, 7, ())
        check_too_many(self, 6, are_shares, 12, None)


class Steady(unittest.TestCase):
    def test_shares_that_are_not_steady(self):
        for places in (1, 2, 3):
            rows = all_rows(places)
            even = tuple((1, len(rows)) for _ in rows)
            single = tuple((1 if row == rows[-2] else 0, 1) for row in rows)
            uneven = tuple(Fraction(at, sum(range(len(rows)))) for at in range(len(rows)))
            for shares in (even, single, pairs(uneven), steady_shares(S, places)[::-1]):
                for rates in ALL_RATES:
                    told = unsteady_told(rates, places, shares)
                    self.assertEqual(unsteady_rows(rates, places, shares), told)
                    self.assertIs(are_steady(rates, places, shares), told == [])

    def test_steady_shares_are_the_only_ones(self):
        for places in (1, 2, 3, 4):
            for rates in ALL_RATES:
                shares = pairs(solved(rates, places))
                self.assertEqual(steady_shares(rates, places), shares)
                self.assertIs(are_steady(rates, places, shares), True)
                self.assertEqual(unsteady_rows(rates, places, shares), [])

    def test_steady_at_the_greatest_number_of_places(self):
        for rates in ALL_RATES:
            shares = steady_shares(rates, 6)
            self.assertIs(are_steady(rates, 6, shares), True)
            swapped = shares[:10] + (shares[11], shares[10]) + shares[12:]
            self.assertIs(are_steady(rates, 6, swapped), shares[10] == shares[11])

    def test_a_little_less_than_steady(self):
        self.assertEqual(unsteady_rows(S, 1, ((4, 7), (3, 7))), [])
        near = ((4 * 10 ** 100 + 1, 7 * 10 ** 100), (3 * 10 ** 100 - 1, 7 * 10 ** 100))
        self.assertEqual(unsteady_rows(S, 1, near), [(0,), (1,)])
        self.assertIs(are_steady(S, 1, near), False)

    def test_some_rows_only(self):
        shares = ((0, 1), (1, 1), (0, 1), (0, 1))
        self.assertEqual(unsteady_rows(R, 2, shares), [(0, 0), (0, 1), (1, 1)])


class Wrong(unittest.TestCase):
    def test_errors_in_order(self):
        for function in (are_steady, unsteady_rows):
            check_arguments(self, function, (R, InvalidRates, WRONG_RATES), (2, InvalidPlaces, WRONG_PLACES),
                            (H, InvalidShares, NO_SHARES))

    def test_too_many_places_come_ahead_of_shares(self):
        for function in (are_steady, unsteady_rows):
            check_too_many(self, 6, function, R, 7, ())
            check_too_many(self, 6, function, R, 7, ((1, 128),) * 128)
            check_too_many(self, 6, function, R, 12, None)
            check_error(self, InvalidRates, function, (None, 7, ()))
            check_error(self, InvalidPlaces, function, (R, 13, ()))
            check_error(self, InvalidShares, function, (R, 6, H))


if __name__ == "__main__":
    unittest.main()
