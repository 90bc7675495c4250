"""Look papers: [44], [87]."""

import itertools
import unittest
from fractions import Fraction

from hoproads.errors import InvalidFacts, InvalidPaper, InvalidPlaces, InvalidRates
from hoproads.lookpapers import fewest_looks, is_look_paper, least_mean, look_paper, paper_mean
from hoproads.steady import steady_shares
from tests import oracles
from tests.support import (ALL_RATES, BIG, FULL, R, S, STRAYS, WIDE, WRONG_PLACES, WRONG_RATES, all_rows, check_arguments,
                           check_error, check_too_many)
from tests.test_rowfacts import ANY, NO_FACTS, rows_told, some_facts

E, N = (("cars", 0, 1),), (("at", 0, 0), ("at", 0, 1))
ALONE = (("cars", 0, 0),)
NONE = ("none",)
PAPER = ("look", 0, ("look", 1, ("row", (0, 0)), ("row", (0, 1))), ("row", (1, 0)))

# none of these is a look paper for at most one car on two places
NO_PAPERS = STRAYS + [
    NONE, ("none", 0), ("row",), ("row", (0, 0)), ("row", (1, 0)), list(PAPER), PAPER[:3], PAPER + (NONE,), ("look",),
    ("Look",) + PAPER[1:], ("look", 2) + PAPER[2:], ("look", -1) + PAPER[2:], ("look", False) + PAPER[2:],
    ("look", None) + PAPER[2:], ("look", "0") + PAPER[2:], ("look", 1) + PAPER[2:], ("look", BIG) + PAPER[2:],
    ("look", 0, PAPER[3], PAPER[2]), PAPER[:3] + (("row", (1, 1)),), PAPER[:3] + (("row", (True, 0)),),
    PAPER[:3] + (("row", (1, False)),), PAPER[:3] + (("row", [1, 0]),), PAPER[:3] + (["row", (1, 0)],), PAPER[:3] + ((1, 0),),
    PAPER[:3] + (NONE,), PAPER[:3] + (("none",) * 2,), PAPER[:3] + (("row", (1, 0), 0),), PAPER[:3] + (None,),
    PAPER[:3] + (("look", 1, ("row", (1, 0)), NONE),), PAPER[:3] + (("rows", (1, 0)),), PAPER[:3] + (("row", (1,)),),
    PAPER[:2] + (("look", 0, ("row", (0, 0)), ("row", (0, 1))), PAPER[3]),
    PAPER[:2] + (("look", 1, ("row", (0, 1)), ("row", (0, 0))), PAPER[3]),
    PAPER[:2] + (("look", 1, ("row", (0, 0))), PAPER[3]), PAPER[:2] + (PAPER[3], PAPER[3]), (PAPER,), ("none",) * 4,
    ("look", -1, ("look", 0, ("row", (0, 0)), ("row", (1, 0))), ("row", (0, 1))), ("look", 0, PAPER, NONE), ("look", 0, NONE, PAPER), ("look", (0,)) + PAPER[2:],
]


def papers_told(rows, places, asked=()):
    """The list of all look papers for some rows that look at no place twice."""
    if not rows:
        return [NONE]
    if len(rows) == 1:
        return [("row", rows[0])]
    found = []
    for place in range(places):
        if place not in asked:
            sides = [[row for row in rows if row[place] == item] for item in (0, 1)]
            choices = [papers_told(side, places, asked + (place,)) for side in sides]
            found.extend(("look", place, free, car) for free, car in itertools.product(*choices))
    return found


def looks_told(paper, row):
    """How many looks there are on the way to a row."""
    looks = 0
    while paper[0] == "look":
        looks += 1
        paper = paper[2 + row[paper[1]]]
    return looks


def mean_told(rates, places, rows, paper):
    shares = dict(zip(all_rows(places), [Fraction(*share) for share in steady_shares(rates, places)]))
    whole = sum(shares[row] for row in rows)
    return sum(shares[row] * looks_told(paper, row) for row in rows) / whole


def least_told(shares, rows, places, known):
    """The least mean, not divided, by all choices of places at which nothing has been looked yet."""
    if len(rows) < 2:
        return Fraction(0)
    if rows not in known:
        found = []
        for place in range(places):
            sides = [tuple(row for row in rows if row[place] == item) for item in (0, 1)]
            if all(sides):
                found.append(sum(least_told(shares, side, places, known) for side in sides))
        known[rows] = min(found) + sum(shares[row] for row in rows)
    return known[rows]


def fewest_told(rows, places):
    if len(rows) < 2:
        return 0
    found = []
    for place in range(places):
        sides = [[row for row in rows if row[place] == item] for item in (0, 1)]
        if all(sides):
            found.append(1 + max(fewest_told(side, places) for side in sides))
    return min(found)


class Few(unittest.TestCase):
    def test_all_papers(self):
        for places in (1, 2, 3):
            for facts in some_facts(places, 12):
                rows = rows_told(places, facts)
                papers = papers_told(rows, places)
                lengths = [max((looks_told(paper, row) for row in rows), default=0) for paper in papers]
                self.assertEqual(fewest_looks(places, facts), min(lengths))
                for rates in (R, S, WIDE):
                    found = look_paper(rates, places, facts)
                    self.assertIs(is_look_paper(places, facts, found), True)
                    if not rows:
                        self.assertEqual((found, least_mean(rates, places, facts)), (NONE, None))
                        self.assertIs(paper_mean(rates, places, facts, NONE), None)
                    else:
                        means = [mean_told(rates, places, rows, paper) for paper in papers[:200]]
                        for paper, mean in zip(papers[:200], means):
                            self.assertIs(is_look_paper(places, facts, paper), True)
                            self.assertEqual(paper_mean(rates, places, facts, paper), oracles.pair(mean))
                        least = oracles.pair(min(means))
                        self.assertEqual(least_mean(rates, places, facts), least)
                        self.assertEqual(paper_mean(rates, places, facts, found), least)

    def test_more_places(self):
        for places in (4, 5):
            for facts in some_facts(places, 4):
                rows = tuple(rows_told(places, facts))
                if len(rows) <= 12:
                    self.assertEqual(fewest_looks(places, facts), fewest_told(rows, places))
                for rates in (R, FULL):
                    if rows:
                        shares = dict(zip(all_rows(places), [Fraction(*share) for share in steady_shares(rates, places)]))
                        least = least_told(shares, rows, places, {}) / sum(shares[row] for row in rows)
                        self.assertEqual(least_mean(rates, places, facts), oracles.pair(least))
                        found = look_paper(rates, places, facts)
                        self.assertEqual(mean_told(rates, places, rows, found), least)
                        self.assertIs(is_look_paper(places, facts, found), True)

    def test_6_places(self):
        for rates in ALL_RATES:
            self.assertEqual(least_mean(rates, 6, ()), (6, 1))
            found = look_paper(rates, 6, (("cars", 1, 1),))
            self.assertEqual(paper_mean(rates, 6, (("cars", 1, 1),), found), least_mean(rates, 6, (("cars", 1, 1),)))
        self.assertEqual(fewest_looks(6, ()), 6)
        self.assertEqual(fewest_looks(6, (("cars", 1, 1),)), 5)
        self.assertEqual(fewest_looks(6, (("cars", 6, 6),)), 0)
        self.assertEqual(least_mean(S, 6, (("cars", 6, 6),)), (0, 1))
        self.assertEqual(look_paper(S, 6, (("cars", 6, 6),)), ("row", (1,) * 6))

    def test_for_no_row_and_for_one(self):
        for places in (1, 2, 6):
            self.assertEqual(fewest_looks(places, N), 0)
            self.assertIs(least_mean(S, places, N), None)
            self.assertEqual(look_paper(S, places, N), NONE)
            self.assertIs(paper_mean(S, places, N, NONE), None)
            self.assertEqual(fewest_looks(places, ALONE), 0)
            self.assertEqual(least_mean(S, places, ALONE), (0, 1))
            self.assertEqual(look_paper(S, places, ALONE), ("row", (0,) * places))
            self.assertEqual(paper_mean(S, places, ALONE, ("row", (0,) * places)), (0, 1))
            for value in STRAYS + [NONE, PAPER, ("row", (1,) * places), ("row", (0,) * (places + 1)), ["row", (0,) * places],
                                   ("row", (False,) * places), ("row", [0] * places), ("row", (0,) * places, 0)]:
                self.assertIs(is_look_paper(places, ALONE, value), False, value)
            for value in STRAYS + [PAPER, ("row", (0,) * places), ["none"], ("none", "none"), "none", ("None",), ("look", 0, NONE, NONE)]:
                self.assertIs(is_look_paper(places, N, value), False, value)
                check_error(self, InvalidPaper, paper_mean, (S, places, N, value))


class AnyPaper(unittest.TestCase):
    def test_what_is_none(self):
        self.assertIs(is_look_paper(2, E, PAPER), True)
        for value in NO_PAPERS:
            self.assertIs(is_look_paper(2, E, value), False, value)

    def test_looks_that_tell_nothing(self):
        again = ("look", 0, ("look", 0, PAPER[2], NONE), PAPER[3])
        self.assertIs(is_look_paper(2, E, again), True)
        self.assertEqual(paper_mean(R, 2, E, again), (2, 1))
        known = (("at", 0, 0),)
        paper = ("look", 0, ("look", 0, ("look", 1, ("row", (0, 0)), ("row", (0, 1))), NONE), NONE)
        self.assertIs(is_look_paper(2, known, paper), True)
        self.assertEqual(paper_mean(S, 2, known, paper), (3, 1))
        self.assertEqual(least_mean(S, 2, known), (1, 1))
        # no look is let where it is told which row it is, or that there is none
        self.assertIs(is_look_paper(2, known, paper[:3] + (("look", 0, NONE, NONE),)), False)

    def test_deep_papers(self):
        paper = ("look", 1, ("row", (0, 0)), ("row", (0, 1)))
        for _ in range(28):
            paper = ("look", 0, paper, NONE)
        self.assertIs(is_look_paper(2, (("at", 0, 0),), paper), True)
        self.assertEqual(paper_mean(S, 2, (("at", 0, 0),), paper), (29, 1))


class Wrong(unittest.TestCase):
    def test_errors_in_order(self):
        rates = (FULL, InvalidRates, WRONG_RATES)
        places = (2, InvalidPlaces, WRONG_PLACES)
        facts = (E, InvalidFacts, NO_FACTS)
        check_arguments(self, fewest_looks, places, facts)
        check_arguments(self, is_look_paper, places, facts, (PAPER, None, NO_PAPERS))
        for function in (least_mean, look_paper):
            check_arguments(self, function, rates, places, facts)
        check_arguments(self, paper_mean, rates, places, facts, (PAPER, InvalidPaper, NO_PAPERS))

    def test_7_places_and_more(self):
        for places in (7, 8, 12):
            for facts in ((), (ANY,), (("at", places - 1, 1),)):
                check_too_many(self, 6, fewest_looks, places, facts)
                check_too_many(self, 6, least_mean, S, places, facts)
                check_too_many(self, 6, look_paper, S, places, facts)
                for value in STRAYS[:12] + [PAPER, NONE]:
                    check_too_many(self, 6, is_look_paper, places, facts, value)
                    check_too_many(self, 6, paper_mean, S, places, facts, value)
            wrong = (("at", places, 1),)
            check_error(self, InvalidFacts, fewest_looks, (places, wrong))
            check_error(self, InvalidFacts, paper_mean, (S, places, wrong, None))


if __name__ == "__main__":
    unittest.main()
