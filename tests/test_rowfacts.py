"""Facts: [43], [84]."""

import itertools
import random
import unittest

from hoproads.errors import InvalidFacts, InvalidPlaces, InvalidRow
from hoproads.rowfacts import are_facts, count_keeping, keeps_facts, places_left, rows_keeping
from tests.support import A, BIG, C, STRAYS, WRONG_PLACES, WRONG_ROWS, all_rows, check_arguments, check_error, check_too_many

ANY = ("cars", 0, 2)

# none of these is a fact of a road of two places
NO_FACT = STRAYS + [
    (), ("at",), ("at", 0), ("at", 0, 1, 0), ("at", 2, 0), ("at", -1, 0), ("at", 0, 2), ("at", 0, -1), ("at", True, 1),
    ("at", 0, True), ("at", 0, False), ("at", None, 0), ("at", "0", 0), ("at", 0, (1,)), ("At", 0, 1), ("", 0, 1), (0, 0, 1),
    (None, 0, 1), ["at", 0, 1], ("at", BIG, 0), ("cars", 0), ("cars", 0, 3), ("cars", -1, 1), ("cars", 2, 1), ("cars", True, 1),
    ("cars", 0, True), ("cars", 0, None), ("cars", "0", 1), ("cars", 0, BIG), ("cars", -BIG, 0), ["cars", 0, 1], ("cars", 3, 3),
    ("fronts", 0, 3), ("fronts", -1, 0), ("fronts", 1, 0), ("fronts", 0, False), ("fronts", 0, "1"), ("fronts", 0, 1, 2),
    ("alike", 0, 0), ("alike", 1, 1), ("alike", 0, 2), ("alike", -1, 0), ("alike", 0, True), ("alike", False, 1),
    ("alike", 0, None), ("alike", 2, 0), ("alike", 0, BIG), ["alike", 0, 1], ("alike", 0), ("cars ", 0, 1), ("car", 0, 1),
    (("at", 0, 1),), ("front", 0, 0), ("like", 0, 1), ([], 0, 1), ("alike", [0], [1]), ("at", [], 1),
]
NO_FACTS = [value for value in STRAYS if value != ()] + [(fact,) for fact in NO_FACT] + [
    (ANY, ("at", 2, 0)), [ANY], [], (ANY,) * 41, (ANY,) * 1000, ANY, (ANY, None), (ANY, ANY, ["at", 0, 1]), ((ANY,),), "at",
]


def all_facts(places):
    """The list of all facts of a road of so many places."""
    found = [("at", place, item) for place in range(places) for item in (0, 1)]
    bounds = [(low, high) for low in range(places + 1) for high in range(low, places + 1)]
    found += [(word,) + bound for word in ("cars", "fronts") for bound in bounds]
    return found + [("alike",) + pair for pair in itertools.permutations(range(places), 2)]


def keeps_told(row, fact):
    word, one, other = fact
    if word == "at":
        return row[one] == other
    if word == "alike":
        return row[one] == row[other]
    if word == "cars":
        return one <= row.count(1) <= other
    return one <= len([at for at in range(len(row) - 1) if row[at] == 1 and row[at + 1] == 0]) <= other


def rows_told(places, facts):
    return [row for row in all_rows(places) if all(keeps_told(row, fact) for fact in facts)]


def some_facts(places, many):
    """Tuples of facts of a road of so many places, also such that no row keeps all of them."""
    chance = random.Random(places)
    every = all_facts(places)
    found = [(), (every[0],) * 40, (("at", 0, 0), ("at", 0, 1)), (("cars", 0, 0), ("cars", places, places))]
    for _ in range(many):
        found.append(tuple(chance.choice(every) for _ in range(chance.randint(1, 4))))
    for _ in range(many):
        # facts that some row keeps
        row = chance.choice(all_rows(places))
        kept = [fact for fact in every if keeps_told(row, fact)]
        found.append(tuple(chance.choice(kept) for _ in range(chance.randint(1, 40))))
    return found


class AreFacts(unittest.TestCase):
    def test_all_facts(self):
        words = ("at", "cars", "fronts", "alike", "on", "")
        for places in (1, 2, 3):
            every = all_facts(places)
            for value in itertools.product(words, range(-1, places + 3), range(-1, places + 3)):
                self.assertIs(are_facts(places, (value,)), value in every, value)
                self.assertIs(are_facts(places, [value]), False)
                self.assertIs(are_facts(places, (list(value),)), False)
            self.assertIs(are_facts(places, tuple(every[:40])), True)

    def test_what_is_none(self):
        for value in NO_FACTS:
            self.assertIs(are_facts(2, value), False, value)

    def test_none_and_40_and_41(self):
        for places in (1, 2, 6, 12):
            self.assertIs(are_facts(places, ()), True)
            self.assertIs(are_facts(places, (("cars", 0, places),) * 40), True)
            self.assertIs(are_facts(places, (("cars", 0, places),) * 41), False)
        self.assertIs(are_facts(12, (("at", 11, 1), ("alike", 11, 0), ("cars", 12, 12), ("fronts", 0, 12))), True)
        self.assertIs(are_facts(12, (("at", 12, 1),)), False)
        self.assertIs(are_facts(12, (("cars", 0, 13),)), False)


class Rows(unittest.TestCase):
    def test_each_fact_alone(self):
        for places in (1, 2, 3, 4):
            for fact in all_facts(places):
                told = rows_told(places, (fact,))
                self.assertEqual(rows_keeping(places, (fact,)), told)
                for row in all_rows(places):
                    self.assertIs(keeps_facts(row, (fact,)), row in told)

    def test_several_facts(self):
        for places in (1, 2, 3, 5, 8):
            for facts in some_facts(places, 30):
                told = rows_told(places, facts)
                self.assertEqual(rows_keeping(places, facts), told)
                self.assertEqual(count_keeping(places, facts), len(told))
                left = tuple(tuple(sorted({row[place] for row in told})) for place in range(places)) if told else None
                self.assertEqual(places_left(places, facts), left)
                for row in all_rows(places)[::5]:
                    self.assertIs(keeps_facts(row, facts), row in told)

    def test_no_facts(self):
        for places in range(1, 13):
            self.assertEqual(count_keeping(places, ()), 2 ** places)
            self.assertEqual(places_left(places, ()), ((0, 1),) * places)
        self.assertEqual(rows_keeping(10, ()), all_rows(10))
        self.assertIs(keeps_facts((1, 0) * 6, ()), True)

    def test_12_places(self):
        facts = (("cars", 6, 6), ("fronts", 6, 6))
        self.assertEqual(count_keeping(12, facts), 1)
        self.assertEqual(places_left(12, facts), ((1,), (0,)) * 6)
        self.assertIs(keeps_facts((1, 0) * 6, facts), True)
        self.assertIs(keeps_facts((0, 1) * 6, facts), False)
        chain = tuple(("alike", place, place + 1) for place in range(11)) + (("at", 11, 1),)
        self.assertEqual(places_left(12, chain), ((1,),) * 12)
        self.assertIs(places_left(12, chain + (("fronts", 1, 12),)), None)
        self.assertEqual(count_keeping(12, chain + (("fronts", 1, 12),)), 0)

    def test_10_places_and_11(self):
        self.assertEqual(len(rows_keeping(10, (("cars", 5, 5),))), 252)
        for places in (11, 12):
            check_too_many(self, 10, rows_keeping, places, ())
            check_error(self, InvalidFacts, rows_keeping, (places, (("at", places, 0),)))
        check_error(self, InvalidPlaces, rows_keeping, (13, ()))

    def test_lists_are_new(self):
        rows_keeping(2, ()).clear()
        self.assertEqual(len(rows_keeping(2, ())), 4)


class Wrong(unittest.TestCase):
    def test_errors_in_order(self):
        places = (2, InvalidPlaces, WRONG_PLACES)
        for facts in ((ANY,), (), (ANY,) * 40):
            for function in (rows_keeping, count_keeping, places_left):
                check_arguments(self, function, places, (facts, InvalidFacts, NO_FACTS))
            check_arguments(self, keeps_facts, (A, InvalidRow, WRONG_ROWS), (facts, InvalidFacts, NO_FACTS))
            check_arguments(self, are_facts, places, (facts, None, NO_FACTS))

    def test_facts_of_other_roads(self):
        check_error(self, InvalidFacts, keeps_facts, (A, (("at", 2, 0),)))
        self.assertIs(keeps_facts(C, (("at", 2, 0),)), False)


if __name__ == "__main__":
    unittest.main()
