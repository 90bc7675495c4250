"""Rates told by shares and by flows: [86], and the guarantees on them in [3]."""

import itertools
import random
import unittest
from fractions import Fraction

from hoproads.errors import InvalidFlows, InvalidPlaces, InvalidRates, InvalidShares
from hoproads.ratestold import alike_rates, rates_by_flows, rates_told
from hoproads.roads import hopped, hops_of
from hoproads.steady import flow, share_of, steady_shares
from tests import oracles
from tests.support import (BIG, FALL_RATES, NO_FRACTIONS, R, S, STRAYS, WRONG_PLACES, WRONG_RATES, all_rows,
                           check_arguments, check_error, check_too_many)
from tests.test_shares import NO_SHARES

H = ((1, 5), (1, 5), (2, 5), (1, 5))
# rates that come to 1, with the same in divided by out, with hops back and without, and others
THIRDS = ((1, 3), (1, 3), (1, 3))
HALVES = ((1, 2), (1, 2), (0, 1))
TWO_TO_ONE = [((2, 3), (1, 3), (0, 1)), ((1, 2), (1, 4), (1, 4)), ((1, 500), (1, 1000), (997, 1000))]
ONES = [THIRDS, HALVES, ((1, 4), (1, 4), (1, 2))] + TWO_TO_ONE
SOME_RATES = list(FALL_RATES) + ONES + [((1, 2), (1, 2), (1, 1)), ((2, 1), (4, 3), (0, 1)), ((1, 1), (1, 1), (1, 1)),
                                        ((3, 1), (4, 1), (0, 1)), ((1, 2), (2, 3), (1, 4)), ((1, 4), (1, 3), (7, 12))]

NO_FLOWS = NO_FRACTIONS + [(0, 1), (-1, 2), (10 ** 9 + 1, 1), (1, 10 ** 9 + 1), (10 ** 9 + 1, 10 ** 9), (1, BIG), (BIG, 1), (-1, 1)]


def weights_of(rates, places):
    """The values of the weights of all rows at Fractions of any size, also below 0."""
    a, b, q = 1 / rates[0], 1 / rates[1], rates[2]
    known = {}
    return [sum(many * q ** x * a ** y * b ** z for (x, y, z), many in oracles.weight_told(row, 0, known).items())
            for row in all_rows(places)]


def shares_at(rates, places):
    values = weights_of([Fraction(*rate) if isinstance(rate, tuple) else Fraction(rate) for rate in rates], places)
    return tuple(oracles.pair(value / sum(values)) for value in values)


def solved(equations):
    """The equations of three unknowns, with what they come to, put in steps."""
    rows = [row for row in equations if any(row)]
    done = []
    for at in range(4):
        pivot = next((row for row in rows if row[at]), None)
        if pivot is not None:
            pivot = [item / pivot[at] for item in pivot]
            rows = [[item - row[at] * other for item, other in zip(row, pivot)] for row in rows]
            rows = [row for row in rows if any(row)]
            done = [[item - row[at] * other for item, other in zip(row, pivot)] for row in done] + [pivot]
    return done


def rates_solved(places, shares):
    """What the equations of [6] tell of the rates: the steps of the equations, in Fractions."""
    by_row = dict(zip(all_rows(places), [Fraction(*share) for share in shares]))
    names = {"in": 0, "out": 1, "back": 2, "on": 3}
    equations = {row: [Fraction(0)] * 4 for row in by_row}
    for row, share in by_row.items():
        for hop in hops_of(row):
            # what stands at 3 is on the other side
            sign = -1 if hop[0] == "on" else 1
            equations[row][names[hop[0]]] += sign * share
            equations[hopped(row, hop)][names[hop[0]]] -= sign * share
    return solved(list(equations.values()))


def told_by_equations(places, shares):
    """The tuple of [86] by the equations, with as many unknowns left as there are steps fewer than three."""
    steps = rates_solved(places, shares)
    if any(not any(step[:3]) for step in steps):
        return ("none",)
    if len(steps) == 1:
        # in, less so many times out, is 0
        ratio = -steps[0][1]
        return ("ratio", oracles.pair(ratio)) if steps[0][0] == 1 and ratio > 0 else ("none",)
    # what in and out are without hops back, or with the only rate back
    entering, leaving = steps[0][3], steps[1][3]
    back = steps[2][3] if len(steps) == 3 else Fraction(0)
    if entering <= 0 or leaving <= 0 or back < 0:
        return ("none",)
    if len(steps) == 3:
        return ("rates", tuple(oracles.pair(rate) for rate in (entering, leaving, back)))
    # one more of back is as much less of in and out
    assert steps[0][:2] == [1, 0] and steps[1][:2] == [0, 1] and steps[0][2] + steps[1][2] == 1
    assert steps[0][2] * leaving == steps[1][2] * entering
    return ("sum", oracles.pair(entering / leaving), oracles.pair(entering + leaving))


def expected(rates, places):
    """What the steady shares at rates tell, by the guarantee in [3]."""
    entering, leaving, back = [Fraction(*rate) for rate in rates]
    ratio, whole = oracles.pair(entering / leaving), oracles.pair(entering + leaving + back)
    if places == 1:
        return ("ratio", ratio)
    if places == 2 or whole == (1, 1):
        return ("sum", ratio, whole)
    return ("rates", tuple(rates))


def alike_told(places, one, other):
    return shares_at(one, places) == shares_at(other, places)


class Told(unittest.TestCase):
    def test_by_steady_shares(self):
        for rates in SOME_RATES:
            for places in (1, 2, 3, 4):
                shares = steady_shares(rates, places)
                self.assertEqual(rates_told(places, shares), expected(rates, places), (rates, places))
                if places < 4:
                    self.assertEqual(shares_at(rates, places), shares)
        for rates in (S, R, THIRDS, TWO_TO_ONE[1]):
            for places in (5, 6):
                self.assertEqual(rates_told(places, steady_shares(rates, places)), expected(rates, places))

    def test_by_equations(self):
        for rates in SOME_RATES:
            for places in (1, 2, 3):
                shares = steady_shares(rates, places)
                self.assertEqual(rates_told(places, shares), told_by_equations(places, shares))

    def test_rates_without_bounds(self):
        great = ((10 ** 9 + 7, 3), (5, 10 ** 20 + 1), (10 ** 30, 7))
        for places in (3, 4):
            self.assertEqual(rates_told(places, shares_at(great, places)), ("rates", great))
        self.assertEqual(rates_told(1, shares_at(great, 1)), expected(great, 1))
        self.assertEqual(rates_told(2, shares_at(great, 2)), expected(great, 2))
        small = ((1, 10 ** 60), (1, 10 ** 50), (0, 1))
        self.assertEqual(rates_told(3, shares_at(small, 3)), ("rates", small))

    def test_back_below_0_is_no_rate(self):
        for back in (Fraction(-1, 10), Fraction(-1, 1000)):
            for places in (3, 4):
                shares = shares_at((1, 1, back), places)
                self.assertTrue(all(top > 0 for top, _ in shares))
                self.assertEqual(rates_told(places, shares), ("none",))
            # on a road of two places there are others with the same sum
            self.assertEqual(rates_told(2, shares_at((1, 1, back), 2)), ("sum", (1, 1), oracles.pair(2 + back)))

    def test_in_and_out_below_0_are_no_rates(self):
        for places in (3, 4):
            shares = shares_at((-1, -1, 4), places)
            self.assertTrue(all(top > 0 for top, _ in shares))
            self.assertEqual(rates_told(places, shares), ("none",))
            shares = shares_at((-1, -2, 6), places)
            self.assertTrue(all(top > 0 for top, _ in shares))
            self.assertEqual(rates_told(places, shares), ("none",))
        self.assertEqual(told_by_equations(3, shares_at((-1, -1, 4), 3)), ("none",))

    def test_a_share_of_0(self):
        for places in (1, 2, 3):
            for at in range(2 ** places):
                alone = tuple((1, 1) if at == place else (0, 1) for place in range(2 ** places))
                self.assertEqual(rates_told(places, alone), ("none",))
        self.assertEqual(rates_told(2, ((1, 3), (1, 3), (1, 3), (0, 1))), ("none",))

    def test_shares_that_are_steady_at_no_rates(self):
        chance = random.Random(5)
        for places in (2, 3):
            for rates in (R, S, THIRDS, HALVES, TWO_TO_ONE[2], ((2, 1), (4, 3), (0, 1))):
                shares = steady_shares(rates, places)
                for _ in range(12):
                    one, other = chance.sample(range(len(shares)), 2)
                    moved = Fraction(*shares[one]) / chance.randint(2, 9)
                    changed = [Fraction(*share) for share in shares]
                    changed[one] -= moved
                    changed[other] += moved
                    pairs = tuple(oracles.pair(share) for share in changed)
                    self.assertEqual(rates_told(places, pairs), ("none",))
                    self.assertEqual(told_by_equations(places, pairs), ("none",))
        self.assertEqual(rates_told(2, H[::-1]), ("none",))

    def test_a_sum_of_1_alone_is_not_enough(self):
        shares = [Fraction(*share) for share in steady_shares(THIRDS, 3)]
        # the rows 000, 001 and 010 tell in divided by out, and the sum, but others are not steady
        shares[5] += Fraction(1, 16)
        shares[7] -= Fraction(1, 16)
        self.assertEqual(rates_told(3, tuple(map(oracles.pair, shares))), ("none",))

    def test_great_shares(self):
        parts = [Fraction(at + 1, BIG - 2 * at) for at in range(63)]
        shares = tuple(oracles.pair(part) for part in parts + [1 - sum(parts)])
        self.assertEqual(rates_told(6, shares), ("none",))


class Alike(unittest.TestCase):
    def test_roads_of_one_two_and_three_places(self):
        some = SOME_RATES + [((5, 6), (10, 9), (1, 2)), ((1, 1), (4, 3), (0, 1)), ((7, 10), (3, 10), (0, 1))]
        for one, other in itertools.product(some, repeat=2):
            for places in (1, 2, 3):
                self.assertIs(alike_rates(places, one, other), alike_told(places, one, other), (places, one, other))
            for places in (4, 12):
                self.assertIs(alike_rates(places, one, other), alike_rates(3, one, other))

    def test_rates_that_come_to_1(self):
        for one, other in itertools.product(TWO_TO_ONE, repeat=2):
            for places in range(1, 13):
                self.assertIs(alike_rates(places, one, other), True)
        self.assertIs(alike_rates(5, THIRDS, TWO_TO_ONE[0]), False)
        # the same sum of 2, not of 1
        one, other = ((1, 1), (1, 1), (0, 1)), ((1, 2), (1, 2), (1, 1))
        self.assertEqual([alike_rates(places, one, other) for places in (1, 2, 3, 12)], [True, True, False, False])


class Flows(unittest.TestCase):
    def test_there_and_back(self):
        for rates in SOME_RATES:
            told = (share_of(rates, (0,)), flow(rates, 1), flow(rates, 2))
            if max(max(pair) for pair in told) > 10 ** 9:
                check_error(self, InvalidFlows, rates_by_flows, told)
            else:
                self.assertEqual(rates_by_flows(*told), rates)

    def test_flows_at_no_rates(self):
        # a flow of two places greater than that without hops back
        for rates in (R, S, HALVES):
            free, one = share_of(rates, (0,)), flow(rates, 1)
            most = Fraction(*flow((rates[0], rates[1], (0, 1)), 2))
            self.assertEqual(rates_by_flows(free, one, oracles.pair(most)), (rates[0], rates[1], (0, 1)))
            self.assertIs(rates_by_flows(free, one, oracles.pair(most + Fraction(1, 1000))), None)
            self.assertIs(rates_by_flows(free, one, (10 ** 9, 1)), None)

    def test_back_just_below_0(self):
        for back in (Fraction(-1, 1000), Fraction(-1, 2)):
            weights = weights_of((Fraction(1), Fraction(1), back), 2)
            self.assertIs(rates_by_flows((1, 2), (1, 2), oracles.pair(2 / sum(weights))), None)

    def test_tops_and_belows_of_10_to_the_9(self):
        free, one, two = (10 ** 9 - 1, 10 ** 9), (10 ** 9, 10 ** 9 - 1), (1, 10 ** 9)
        found = rates_by_flows(free, one, two)
        entering, leaving, back = [Fraction(*rate) for rate in found]
        self.assertEqual(entering * Fraction(*free), Fraction(*one))
        self.assertEqual(leaving * (1 - Fraction(*free)), Fraction(*one))
        weights = weights_of((entering, leaving, back), 2)
        self.assertEqual((1 / entering + 1 / leaving) / sum(weights), Fraction(*two))
        self.assertGreater(back, 10 ** 9)

    def test_wrong_flows(self):
        free = NO_FLOWS + [(1, 1), (2, 1), (10 ** 9, 10 ** 9 - 1), (3, 2)]
        for good in ((1, 2), (10 ** 9 - 1, 10 ** 9), (1, 10 ** 9)):
            for flows in ((2, 5), (10 ** 9, 1), (1, 10 ** 9)):
                check_arguments(self, rates_by_flows, (good, InvalidFlows, free), (flows, InvalidFlows, NO_FLOWS),
                                (flows, InvalidFlows, NO_FLOWS))


class Wrong(unittest.TestCase):
    def test_errors_in_order(self):
        check_arguments(self, rates_told, (2, InvalidPlaces, WRONG_PLACES), (H, InvalidShares, NO_SHARES))
        rates = (S, InvalidRates, WRONG_RATES)
        check_arguments(self, alike_rates, (3, InvalidPlaces, WRONG_PLACES), rates, rates)
        check_arguments(self, alike_rates, (12, InvalidPlaces, WRONG_PLACES), rates, rates)

    def test_7_places_and_more(self):
        for places in (7, 8, 12):
            for shares in STRAYS + [H]:
                check_too_many(self, 6, rates_told, places, shares)
        check_error(self, InvalidShares, rates_told, (6, H))
        check_error(self, InvalidPlaces, rates_told, (13, H))


if __name__ == "__main__":
    unittest.main()
