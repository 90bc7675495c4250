"""Lines opened, closed, and hopping along: [32], [33], [74], and the guarantees on them in [3]."""

import unittest
from fractions import Fraction

from hoproads.errors import InvalidHop, InvalidLine, InvalidSlot
from hoproads.linemoves import line_closed, line_hopped, line_hops, line_opened, lines_before, slot_ring
from hoproads.lines import is_line, line_row, line_weight
from tests import oracles
from tests.support import BELOW, BIG, NO_FALL, R, check_arguments, check_error, check_too_many, wrong_numbers
from tests.test_lines import LONG_LINES, NO_LINES, lines_told, row_told
from tests.test_roads import NO_HOPS, hops_told

L = (1, 1, 2, 0)
SHORT_LINES = [line for places in range(6) for line in lines_told(places)]
LINES = SHORT_LINES + LONG_LINES
# hops that no row of 12 places can do, and hops beyond 30 places
NO_LINE_HOPS = NO_HOPS + [("out", 30), ("on", 29), ("on", 30), ("out", 31), ("back", 29), ("back", 0)]


def told_hops(line):
    """The dict from the hops of a line to the rows behind them."""
    if not line:
        return {}
    return {hop: row for hop, row in hops_told(row_told(line)).items() if hop[0] != "back"}


def opened_told(line, slot):
    if slot == 0:
        return (0,) + line
    if slot == len(line) + 1:
        return line + ((line[-1] if line else 0) + 1,)
    heights = list(line)
    heights.insert(slot - 1, (line[slot - 2] if slot > 1 else 0) + 1)
    return tuple(heights)


def closed_told(line, hop):
    word, place = hop
    gone = {"in": 0, "out": len(line) - 1, "on": place}[word]
    return tuple(height for at, height in enumerate(line) if at != gone)


def ring_told(line):
    row = row_told(line)
    gaps = [place + 1 for place in range(len(row)) if row[place] == 0]
    cars = [place + 1 for place in range(len(row)) if row[place] == 1]
    return [0] + gaps + [len(line) + 1] + sorted(cars, reverse=True)


def hopped_told(line, hop):
    left = closed_told(line, hop)
    slots = [slot for slot in range(len(left) + 2) if opened_told(left, slot) == line]
    assert len(slots) == 1
    ring = ring_told(left)
    return opened_told(left, (ring + ring)[ring.index(slots[0]) + 1])


class Opened(unittest.TestCase):
    def test_all_slots(self):
        for line in SHORT_LINES + [line[:29] for line in LONG_LINES]:
            for slot in range(len(line) + 2):
                found = line_opened(line, slot)
                self.assertEqual(found, opened_told(line, slot))
                self.assertIs(is_line(found), True)

    def test_too_many_places_come_behind_the_slot(self):
        for line in LONG_LINES:
            for slot in (0, 1, 30, 31):
                check_too_many(self, 29, line_opened, line, slot)
            for slot in (-1, 32, None, True):
                check_error(self, InvalidSlot, line_opened, (line, slot))


class Closed(unittest.TestCase):
    def test_all_hops(self):
        for line in LINES:
            for hop in told_hops(line):
                left, slot = line_closed(line, hop)
                self.assertEqual(left, closed_told(line, hop))
                self.assertIs(is_line(left), True)
                # it is opened again at this slot alone
                slots = [some for some in range(len(left) + 2) if opened_told(left, some) == line]
                self.assertEqual(slots, [slot])

    def test_hops(self):
        for line in LINES:
            self.assertEqual(line_hops(line), sorted(told_hops(line)))
        self.assertEqual(line_hops(()), [])
        self.assertEqual(line_hops((0,) * 30), [("in", 0)])
        self.assertEqual(line_hops(tuple(range(1, 31))), [("out", 29)])

    def test_slot_rings(self):
        for line in LINES:
            self.assertEqual(slot_ring(line), tuple(ring_told(line)))

    def test_lists_are_new(self):
        line_hops(L).clear()
        lines_before((0, 1)).clear()
        self.assertEqual(len(line_hops(L)), 2)
        self.assertEqual(len(lines_before((0, 1))), 2)


class Hopped(unittest.TestCase):
    def test_all_hops(self):
        for line in LINES:
            for hop, row in told_hops(line).items():
                found = line_hopped(line, hop)
                self.assertEqual(found, hopped_told(line, hop))
                self.assertIs(is_line(found), True)
                # the row hops along
                self.assertEqual(line_row(found), row)

    def test_lines_before(self):
        for places in range(6):
            found = {line: [] for line in lines_told(places)}
            for line in lines_told(places):
                for hop in told_hops(line):
                    found[hopped_told(line, hop)].append((line, hop))
            for line in lines_told(places):
                self.assertEqual(lines_before(line), sorted(found[line]))

    def test_as_many_hops_to_each_line_as_from_it(self):
        for line in LINES:
            found = lines_before(line)
            self.assertEqual(len(found), len(told_hops(line)))
            self.assertEqual(found, sorted(set(found)))
            for other, hop in found:
                self.assertIs(is_line(other), True)
                self.assertEqual(hopped_told(other, hop), line)

    def test_the_weights_are_steady(self):
        for rates in (R, BELOW, NO_FALL, ((7, 5), (3, 8), (0, 1)), ((1000, 999), (1, 1000), (0, 1))):
            named = {"in": Fraction(*rates[0]), "out": Fraction(*rates[1]), "on": Fraction(1)}
            for line in SHORT_LINES + LONG_LINES[:2]:
                weight = oracles.value_told(rates, line_weight(line))
                going = weight * sum(named[word] for word, _ in line_hops(line))
                coming = sum(named[hop[0]] * oracles.value_told(rates, line_weight(other))
                             for other, hop in lines_before(line))
                self.assertEqual(going, coming)


class Wrong(unittest.TestCase):
    def test_errors_in_order(self):
        lines = (L, InvalidLine, NO_LINES)
        check_arguments(self, line_opened, lines, (5, InvalidSlot, wrong_numbers(0, 5)))
        check_arguments(self, line_opened, ((), InvalidLine, NO_LINES), (0, InvalidSlot, wrong_numbers(0, 1)))
        wrong = NO_LINE_HOPS + [("in", 0), ("out", 3), ("on", 1), ("on", 3), ("back", 2), ("on", BIG)]
        for function in (line_closed, line_hopped):
            check_arguments(self, function, lines, (("on", 0), InvalidHop, wrong))
            check_arguments(self, function, (LONG_LINES[1], InvalidLine, NO_LINES), (("in", 0), InvalidHop, NO_LINE_HOPS))
            check_arguments(self, function, (LONG_LINES[0], InvalidLine, NO_LINES),
                            (("out", 29), InvalidHop, NO_LINE_HOPS + [("in", 0), ("on", 28), ("out", 28)]))
            for hop in (("in", 0), ("out", 0), ("out", -1), ("on", 0)):
                check_error(self, InvalidHop, function, ((), hop))
        for function in (slot_ring, line_hops, lines_before):
            check_arguments(self, function, lines)

    def test_hops_back_are_none_of_a_line(self):
        for line in SHORT_LINES:
            for place in range(1, len(line)):
                check_error(self, InvalidHop, line_hopped, (line, ("back", place)))
                check_error(self, InvalidHop, line_closed, (line, ("back", place)))


if __name__ == "__main__":
    unittest.main()
