"""Rounds of boards: [27], [70], and the guarantees on them in [3]."""

import math
import unittest
from fractions import Fraction

from hoproads.errors import InvalidBoard, InvalidHop, InvalidNumber, InvalidPlaces
from hoproads.roads import hop_rate
from hoproads.stairlists import all_tables
from hoproads.stairs import table_weight
from hoproads.tablehops import board_hopped, board_left, is_board
from hoproads.tablerounds import count_rounds, led_round, round_hops, round_of, rounds_with
from tests import oracles
from tests.boards import (LONG_BOARDS, NO_BOARDS, all_hops, boards_up_to, is_plain_told, left_told, out_told, round_told,
                          some_boards)
from tests.support import A, BIG, FALL_RATES, NO_INTEGERS, check_arguments, check_error, wrong_numbers
from tests.test_roads import NO_HOPS

Y = (A, ((0, 1, "car"),))
# boards of 11 places
ELEVEN = [out_told(board, 4) for board in LONG_BOARDS]
SMALL = boards_up_to(4) + ELEVEN
NO_SMALL = [value for value in NO_BOARDS if value != ((), ())] + LONG_BOARDS[:3] + [
    ((0,) * 12, ()), (), ((),), ((), (), ()), [(), ()], ([], ()), ((), []), ((), ((0, 1, "car"),)), ((), None),
]


class Rounds(unittest.TestCase):
    def test_boards_and_hops(self):
        for small in SMALL:
            told = round_told(small)
            self.assertEqual(round_of(small), [board for board, _ in told])
            self.assertEqual(round_hops(small), [hop for _, hop in told])
            self.assertEqual(len(told), len(small[0]) + 2)

    def test_each_board_leads_to_the_next_one(self):
        for small in SMALL:
            boards, hops = round_of(small), round_hops(small)
            for at, (board, hop) in enumerate(zip(boards, hops)):
                self.assertIs(is_board(board), True)
                self.assertEqual(board_left(board, hop), small)
                self.assertEqual(board_hopped(board, hop), boards[(at + 1) % len(boards)])

    def test_the_rounds_of_all_boards_have_factorials_of_items(self):
        for places in range(1, 6):
            smaller = [((), ())] if places == 1 else all_tables(places - 1)
            self.assertEqual(sum(len(round_of(small)) for small in smaller), math.factorial(places + 1))

    def test_each_item_times_the_rate_of_its_hop_has_the_weight_of_the_board_that_is_left(self):
        for rates in FALL_RATES[::2]:
            for small in SMALL:
                left = Fraction(1)
                if small[0]:
                    left = oracles.value_told(rates, table_weight(*small))
                for board, hop in zip(round_of(small), round_hops(small)):
                    rate = Fraction(*hop_rate(rates, hop))
                    self.assertEqual(oracles.value_told(rates, table_weight(*board)) * rate, left)

    def test_lists_are_new(self):
        for function in (round_of, round_hops):
            function(((), ())).clear()
            self.assertEqual(len(function(((), ()))), 2)


class With(unittest.TestCase):
    def test_all_rounds_in_which_a_board_lies(self):
        for places in range(1, 6):
            found = {board: [] for board in all_tables(places)}
            for small in [((), ())] if places == 1 else all_tables(places - 1):
                for at, board in enumerate(round_of(small)):
                    found[board].append((small, at))
            for board in all_tables(places):
                self.assertEqual(rounds_with(board), sorted(found[board]))

    def test_each_board_that_is_left_once(self):
        for board in some_boards():
            left = [left_told(board, hop) for _, hop in all_hops([board]) if not is_plain_told(board, hop)]
            pairs = rounds_with(board)
            self.assertEqual(sorted(small for small, _ in pairs), sorted(left))
            self.assertEqual(len(set(left)), len(left))
            self.assertEqual(pairs, sorted(pairs))
            for small, at in pairs:
                self.assertEqual([some for some, _ in round_told(small)].index(board), at)

    def test_lists_are_new(self):
        rounds_with(Y).clear()
        self.assertEqual(len(rounds_with(Y)), 1)


class Led(unittest.TestCase):
    def test_steps(self):
        for board, hop in all_hops(some_boards()):
            if is_plain_told(board, hop):
                check_error(self, InvalidHop, led_round, (board, hop, 0))
                check_error(self, InvalidHop, led_round, (board, hop, -1))
                continue
            boards = [some for some, _ in round_told(left_told(board, hop))]
            at = boards.index(board)
            for times in (0, 1, 2, 5, len(boards), 10 ** 30 - 1, 10 ** 30):
                self.assertEqual(led_round(board, hop, times), boards[(at + times) % len(boards)])

    def test_no_step_and_one(self):
        for board, hop in all_hops(all_tables(3)):
            if not is_plain_told(board, hop):
                self.assertEqual(led_round(board, hop, 0), board)
                self.assertEqual(led_round(board, hop, 1), board_hopped(board, hop))


class Counts(unittest.TestCase):
    def test_counts(self):
        for places in range(1, 61):
            self.assertEqual(count_rounds(places), math.factorial(places))
        for places in range(2, 6):
            self.assertEqual(count_rounds(places), len(all_tables(places - 1)))


class Wrong(unittest.TestCase):
    def test_errors_in_order(self):
        self.assertEqual({len(small[0]) for small in ELEVEN}, {11})
        for function in (round_of, round_hops):
            for good in (((), ()), ELEVEN[0]):
                check_arguments(self, function, (good, InvalidBoard, NO_SMALL))
        boards = (Y, InvalidBoard, NO_BOARDS)
        check_arguments(self, rounds_with, boards)
        hops = (("on", 0), InvalidHop, NO_HOPS + [("in", 0), ("out", 1), ("back", 1)])
        check_arguments(self, led_round, boards, hops, (10 ** 30, InvalidNumber, wrong_numbers(0, 10 ** 30)))
        check_arguments(self, led_round, (((0, 1), ()), InvalidBoard, NO_BOARDS),
                        (("in", 0), InvalidHop, NO_HOPS + [("back", 1), ("on", 1)]),
                        (0, InvalidNumber, wrong_numbers(0, 10 ** 30)))
        for places in (1, 60):
            check_arguments(self, count_rounds, (places, InvalidPlaces, NO_INTEGERS + [0, -1, -BIG, 61, BIG]))


if __name__ == "__main__":
    unittest.main()
