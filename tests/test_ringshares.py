"""Steady shares of wheels: [36], [79], and the guarantees on them in [3]."""

import itertools
import unittest
from collections import Counter
from fractions import Fraction

from hoproads.errors import InvalidCounts, InvalidShares, InvalidSort, InvalidWheel
from hoproads.plain import reduced
from hoproads.ringshares import are_steady_wheels, pair_share, share_of_wheel, sort_flow, steady_wheels
from tests import oracles
from tests.rings import all_counts, counts_told, hops_told, queue_lines_told, wheel_told, wheels_of
from tests.support import BIG, NO_FRACTIONS, NO_INTEGERS, STRAYS, check_arguments, check_error, check_too_many
from tests.test_wheels import LONG_WHEELS, NO_COUNTS, NO_WHEELS

SOME_COUNTS = [counts for places in range(2, 6) for counts in all_counts(places)]
SIX = [(1, 5), (3, 3), (1, 1, 4), (2, 2, 2), (1, 2, 1, 2), (2, 1, 1, 1, 1)]
LONG = [(3, 4), (1, 6), (1, 1, 1, 1, 3), (4, 4), (1, 7), (2, 2, 2, 2), (1, 1, 1, 1, 4)]

# none of these is shares of the two wheels with one car
NO_SHARES = STRAYS + [
    (), ((1, 1),), ((1, 3), (2, 3), (0, 1)), ((1, 2), (1, 3)), ((-1, 2), (3, 2)), ((1, 2), (2, 4)), [(1, 2), (1, 2)],
    ([1, 2], (1, 2)), ((1, 2), (1, 2), (0, 1)), ((0, 1), (0, 1)), ((True, 1), (0, 1)), ((1, True), (0, 1)), "11",
    ((BIG, 1), (1, 1)), ((1, BIG), (1, 1)), ((1, 1), (0, 2)), (1, 0), ((1, 1), (False, 1)),
] + [((1, 1), value) for value in NO_FRACTIONS] + [(value, (0, 1)) for value in NO_FRACTIONS]


def are_steady_told(counts, shares):
    """Whether shares are steady, by [36]."""
    by_wheel = dict(zip(wheels_of(counts), [Fraction(*share) for share in shares]))
    coming = {wheel: Fraction(0) for wheel in by_wheel}
    for wheel, share in by_wheel.items():
        for _, behind in hops_told(wheel):
            coming[behind] += share
    return all(coming[wheel] == share * len(hops_told(wheel)) for wheel, share in by_wheel.items())


def shares_told(counts):
    """The shares of all wheels by their queue lines, a dict of Fractions."""
    many = Counter(wheel_told(lines) for lines in queue_lines_told(counts))
    return {wheel: Fraction(many[wheel], sum(many.values())) for wheel in wheels_of(counts)}


class Shares(unittest.TestCase):
    def test_shares_by_queue_lines(self):
        for counts in SOME_COUNTS + SIX:
            told = shares_told(counts)
            found = steady_wheels(counts)
            self.assertEqual(found, tuple(oracles.pair(share) for share in told.values()))
            for wheel, share in list(told.items())[::7]:
                self.assertEqual(share_of_wheel(wheel), oracles.pair(share))

    def test_they_are_steady(self):
        for counts in SOME_COUNTS + SIX + [(1, 1, 1, 1, 2), (1, 1, 2, 1, 1)]:
            shares = steady_wheels(counts)
            self.assertIs(are_steady_told(counts, shares), True)
            self.assertIs(are_steady_wheels(counts, shares), True)

    def test_all_others_are_not(self):
        for counts in SOME_COUNTS:
            shares = list(steady_wheels(counts))
            for one, other in itertools.islice(itertools.combinations(range(len(shares)), 2), 40):
                changed = list(shares)
                changed[one], changed[other] = changed[other], changed[one]
                self.assertIs(are_steady_wheels(counts, tuple(changed)), changed == shares)
                self.assertIs(are_steady_told(counts, changed), changed == shares)
            for at in range(len(shares)):
                alone = tuple((1, 1) if at == place else (0, 1) for place in range(len(shares)))
                self.assertIs(are_steady_wheels(counts, alone), False)

    def test_two_sorts_alone_are_all_alike(self):
        self.assertEqual(set(steady_wheels((3, 3))), {(1, 20)})
        self.assertEqual(share_of_wheel((1, 2)), (1, 2))

    def test_shares_with_great_numbers(self):
        wheels = wheels_of((2, 1, 1, 1, 1))
        parts = [reduced(at + 1, BIG - 2 * at) for at in range(len(wheels) - 1)]
        last = 1 - sum(Fraction(*part) for part in parts)
        self.assertIs(are_steady_wheels((2, 1, 1, 1, 1), tuple(parts) + (oracles.pair(last),)), False)
        check_error(self, InvalidShares, are_steady_wheels, ((2, 1, 1, 1, 1), tuple(parts) + ((1, 2),)))


class Pairs(unittest.TestCase):
    def test_all_pairs_of_sorts(self):
        for counts in SOME_COUNTS + SIX[2:5]:
            told = shares_told(counts)
            for one, other in itertools.product(range(1, len(counts) + 1), repeat=2):
                share = sum(share for wheel, share in told.items() if wheel[:2] == (one, other))
                self.assertEqual(pair_share(counts, one, other), oracles.pair(share))

    def test_a_sort_with_itself(self):
        self.assertEqual(pair_share((1, 1), 1, 1), (0, 1))
        self.assertEqual(pair_share((2, 2), 1, 1), (1, 6))
        self.assertEqual(pair_share((1, 5), 2, 2), (2, 3))


class Flows(unittest.TestCase):
    def test_all_sorts(self):
        for counts in SOME_COUNTS + SIX:
            told = shares_told(counts)
            for sort in range(1, len(counts)):
                share = sum(share for wheel, share in told.items() if wheel[0] <= sort < wheel[1])
                self.assertEqual(sort_flow(counts, sort), oracles.pair(share))

    def test_up_to_8_places(self):
        for places in range(2, 9):
            for counts in all_counts(places):
                for sort in range(1, len(counts)):
                    cars = sum(counts[:sort])
                    told = Fraction(cars * (places - cars), places * (places - 1))
                    self.assertEqual(sort_flow(counts, sort), oracles.pair(told))


class Wrong(unittest.TestCase):
    def test_too_many_places(self):
        for wheel in LONG_WHEELS:
            check_too_many(self, 6, share_of_wheel, wheel)
        for counts in LONG:
            check_too_many(self, 6, steady_wheels, counts)
            check_too_many(self, 6, pair_share, counts, 1, len(counts))
            for shares in STRAYS + [((1, 1),)]:
                check_too_many(self, 6, are_steady_wheels, counts, shares)
            for sort in (0, len(counts) + 1, True, None):
                check_error(self, InvalidSort, pair_share, (counts, sort, 1))
                check_error(self, InvalidSort, pair_share, (counts, 1, sort))

    def test_errors_in_order(self):
        for wheel in ((1, 3, 2), (1, 2), (5, 4, 3, 2, 1, 1)):
            check_arguments(self, share_of_wheel, (wheel, InvalidWheel, NO_WHEELS))
            check_arguments(self, steady_wheels, (counts_told(wheel), InvalidCounts, NO_COUNTS))
        counts = ((1, 1, 1), InvalidCounts, NO_COUNTS)
        for good in (1, 3):
            sort = (good, InvalidSort, NO_INTEGERS + [-1, 0, 4, 5, BIG, -BIG])
            check_arguments(self, pair_share, counts, sort, sort)
        for good in (1, 2):
            check_arguments(self, sort_flow, counts, (good, InvalidSort, NO_INTEGERS + [-1, 0, 3, 4, BIG, -BIG]))
        check_arguments(self, are_steady_wheels, ((1, 1), InvalidCounts, NO_COUNTS),
                        (((1, 2), (1, 2)), InvalidShares, NO_SHARES))


if __name__ == "__main__":
    unittest.main()
