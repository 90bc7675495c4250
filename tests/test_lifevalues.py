"""Roads as values: [91]."""

import itertools
import unittest

from hoproads.errors import (InvalidHop, InvalidPlace, InvalidRates, InvalidRow, InvalidText, TooMany, Unlike)
from hoproads.lifevalues import Road
from hoproads.roads import hopped, hops_of, rate_away
from hoproads.stairs import mirrored_row
from tests.support import (A, ALL_RATES, B, BIG, C, NO_INTEGERS, R, S, STRAYS, WRONG_RATES, WRONG_ROWS, all_rows, check_arguments,
                           check_error, rows_up_to)

ROWS = rows_up_to(4) + [(1, 0) * 6, (0,) * 12, (1,) * 12, (1, 1, 0, 0) * 3]
NO_PLACES = NO_INTEGERS + [-1, 12, 13, BIG, -BIG, slice(0, 1)]
NO_HOPS = STRAYS + [("on", 5), ("on", -1), ("on", True), ["on", 0], ("in", 1), ("out", 0), ("back", 0), ("back", 12), ("On", 0), ("on",)]
NOT_ROADS = [value for value in STRAYS if not isinstance(value, Road)] + [A, S, (A, S), [A, S], object(), str(Road(A, S))]
NO_TEXTS = STRAYS + [
    "", "\n", "10", "10\n", "10\n1/2 2/3", "10\n1/2 2/3 1/3\n", "\n10\n1/2 2/3 1/3", "10\n1/2 2/3 1/3 ", " 10\n1/2 2/3 1/3",
    "1 0\n1/2 2/3 1/3", "12\n1/2 2/3 1/3", "10\n1/2  2/3 1/3", "10\n2/4 2/3 1/3", "10\n1/2 2/3 -1/3", "10\n1/2 2/3 1/3 1/3",
    "10\n1/2 2/3 0/2", "10\n0/1 2/3 1/3", "10\n01/2 2/3 1/3", "10\n1001/1 2/3 1/3", "10 1/2 2/3 1/3", "10\r\n1/2 2/3 1/3",
    "0" * 13 + "\n1/2 2/3 1/3", "\n1/2 2/3 1/3", "10\n1/2 2/3 1/3\n1", "10\n1 2 3", "10\n1/2 2/3 1/0", "+1\n1/2 2/3 1/3",
    "10\n1/2 2/3 " + "1" * 900,
]


def texts(row, rates):
    return "".join(map(str, row)) + "\n" + " ".join(f"{top}/{below}" for top, below in rates)


def error_of(test, error, call):
    """Check that a call without arguments raises just this error."""
    with test.assertRaises(error) as caught:
        call()
    test.assertIs(type(caught.exception), error)
    return caught.exception


class Made(unittest.TestCase):
    def test_properties(self):
        for row in ROWS:
            for rates in ALL_RATES[:3]:
                road = Road(row, rates)
                self.assertEqual((road.row, road.rates, road.cars), (row, rates, sum(row)))
                self.assertEqual(road.away, rate_away(row, rates))
        self.assertEqual((Road.MOST, Road(A, R).MOST), (12, 12))

    def test_properties_are_not_assigned(self):
        road = Road(A, R)
        for name in ("row", "rates", "cars", "away"):
            with self.assertRaises(AttributeError):
                setattr(road, name, None)
        self.assertEqual(road, Road(A, R))

    def test_errors_in_order(self):
        check_arguments(self, Road, (C, InvalidRow, WRONG_ROWS), (S, InvalidRates, WRONG_RATES))

    def test_texts(self):
        for row in ROWS:
            for rates in ALL_RATES[:3]:
                road = Road(row, rates)
                self.assertEqual(str(road), texts(row, rates))
                found = Road.read(texts(row, rates))
                self.assertEqual(found, road)
                self.assertIs(type(found), Road)
        for value in NO_TEXTS:
            check_error(self, InvalidText, Road.read, (value,))

    def test_equal(self):
        some = [Road(row, rates) for row in rows_up_to(3) for rates in (R, S)]
        for one, other in itertools.product(some, repeat=2):
            same = one.row == other.row and one.rates == other.rates
            self.assertIs(one == other, same)
            self.assertIs(one != other, not same)
        for road in some:
            for value in NOT_ROADS:
                self.assertIs(road == value, False)
                self.assertIs(value == road, False)
                self.assertIs(road != value, True)
        self.assertEqual(Road(A, R), Road((1, 0), ((1, 1), (1, 1), (0, 1))))


class Hops(unittest.TestCase):
    def test_on_and_back_and_all(self):
        for row in ROWS:
            road = Road(row, S)
            hops = hops_of(row)
            for word, place in itertools.product(("on", "back", "in", "out"), range(-1, 13)):
                hop = (word, place)
                self.assertIs(hop in road, hop in hops)
                if hop in hops:
                    self.assertEqual(road(hop), Road(hopped(row, hop), S))
                else:
                    check_error(self, InvalidHop, road.__call__, (hop,))
                for sign, named in (("on", lambda: road >> place), ("back", lambda: road << place)):
                    if word == sign and hop in hops:
                        self.assertEqual(named(), Road(hopped(row, hop), S))
                    elif word == sign:
                        error_of(self, InvalidHop, named)
            self.assertEqual((road.row, road.rates), (row, S))

    def test_any_value(self):
        road = Road(A, S)
        for value in NO_HOPS:
            self.assertIs(value in road, False, value)
            error_of(self, InvalidHop, lambda: road(value))
        for value in NO_INTEGERS + [-1, 1, 2, 12, BIG, -BIG, ("on", 0), slice(0, 1)]:
            error_of(self, InvalidHop, lambda: road >> value)
        for value in NO_INTEGERS + [-1, 0, 1, 2, 12, BIG, -BIG, ("back", 0)]:
            error_of(self, InvalidHop, lambda: road << value)
        self.assertEqual(road, Road(A, S))


class Signs(unittest.TestCase):
    def test_mirrored(self):
        for row in ROWS:
            for rates in ALL_RATES[:3]:
                found = ~Road(row, rates)
                self.assertEqual(found, Road(mirrored_row(row), (rates[1], rates[0], rates[2])))
                self.assertEqual(~found, Road(row, rates))

    def test_joined(self):
        for one, other in itertools.product(rows_up_to(3) + [(1, 0) * 6, (0, 1) * 5, (1,) * 11], repeat=2):
            road, behind = Road(one, S), Road(other, R)
            if len(one) + len(other) <= 12:
                self.assertEqual(road + behind, Road(one + other, S))
                changed = road
                changed += behind
                self.assertIs(changed, road)
                self.assertEqual(road, Road(one + other, S))
            else:
                self.assertEqual(error_of(self, TooMany, lambda: road + behind).limit, 12)
                self.assertEqual(error_of(self, TooMany, lambda: road.__iadd__(behind)).limit, 12)
                self.assertEqual(road, Road(one, S))
            self.assertEqual(behind, Road(other, R))

    def test_joined_with_itself(self):
        road = Road(C, S)
        other = road
        road += road
        self.assertIs(other, road)
        self.assertEqual(road, Road(C + C, S))
        road += Road(C, R)
        self.assertEqual(road, Road(C * 3, S))
        self.assertEqual(error_of(self, TooMany, lambda: road + Road((0,), R)).limit, 12)

    def test_joined_with_any_value(self):
        for row in (A, (1,) * 12):
            road = Road(row, S)
            for value in NOT_ROADS:
                error_of(self, Unlike, lambda: road + value)
                error_of(self, Unlike, lambda: road.__iadd__(value))
            self.assertEqual(road, Road(row, S))

    def test_without_a_place(self):
        for row in ROWS:
            road = Road(row, S)
            for place in range(len(row)):
                if len(row) == 1:
                    error_of(self, InvalidPlace, lambda: road - place)
                else:
                    self.assertEqual(road - place, Road(row[:place] + row[place + 1:], S))
                changed = list(row)
                changed[place] = 1 - changed[place]
                self.assertEqual(road ^ place, Road(tuple(changed), S))
                self.assertEqual(road[place], row[place])
            for place in NO_PLACES + [len(row)]:
                error_of(self, InvalidPlace, lambda: road - place)
                error_of(self, InvalidPlace, lambda: road ^ place)
                error_of(self, InvalidPlace, lambda: road[place])
            self.assertEqual(road, Road(row, S))

    def test_order(self):
        for places in (1, 2, 3, 4):
            for one, other in itertools.product(all_rows(places), repeat=2):
                told = all(sum(one[at:]) <= sum(other[at:]) for at in range(places))
                self.assertIs(Road(one, S) <= Road(other, R), told)
        self.assertIs(Road(A, R) <= Road(A, S), True)
        self.assertIs(Road((1, 0) * 6, R) <= Road((0, 1) * 6, S), True)
        self.assertIs(Road((0, 1) * 6, R) <= Road((1, 0) * 6, S), False)

    def test_order_with_what_is_unlike(self):
        road = Road(A, S)
        for value in NOT_ROADS + [Road(B, S), Road((1,), S), Road((1,) * 12, R)]:
            error_of(self, Unlike, lambda: road <= value)


class Builtins(unittest.TestCase):
    def test_length_and_truth(self):
        for row in ROWS:
            self.assertEqual(len(Road(row, R)), len(row))
            self.assertIs(bool(Road(row, R)), 1 in row)

    def test_it_is_not_iterated_over(self):
        for call in (iter, list, tuple, sorted, lambda road: [item for item in road], lambda road: dict.fromkeys(road)):
            with self.assertRaises(TypeError):
                call(Road(A, R))
        with self.assertRaises(TypeError):
            first, last = Road(A, R)

    def test_a_long_way(self):
        road = Road((0,) * 3, S)
        for hop in (("in", 0), ("on", 0), ("in", 0), ("on", 1), ("back", 2), ("on", 1), ("out", 2), ("on", 0)):
            road = road(hop)
        self.assertEqual(road, Road((0, 1, 0), S))


if __name__ == "__main__":
    unittest.main()
