"""What leads away from boards and to them, and shares: [29], [71], and the guarantees on them in [3]."""

import unittest
from fractions import Fraction

from hoproads.errors import InvalidBoard, InvalidPlaces, InvalidRates, InvalidShares
from hoproads.stairlists import all_tables
from hoproads.steady import share_of
from hoproads.tableflows import are_boards_steady, board_share, board_shares, leads_away, leads_to
from tests import oracles
from tests.boards import NO_BOARDS, all_hops, hopped_told, some_boards
from tests.support import (A, ALL_RATES, BELOW, BIG, NARROW, NO_FALL, NO_FRACTIONS, R, S, STRAYS, WIDE, WRONG_PLACES,
                           WRONG_RATES, all_rows, check_arguments, check_error, check_too_many)
from tests.test_roads import hops_told

Y = (A, ((0, 1, "car"),))
NO_SHARES = STRAYS + [
    (), ((1, 1),), ((1, 2), (1, 3)), ((1, 2), (1, 2), (0, 1)), ((3, 2), (-1, 2)), ((2, 4), (1, 2)), [(1, 2), (1, 2)],
    ([1, 2], (1, 2)), ((1, 1), (0, 2)), ((1, 1), 0), ((True, 1), (0, 1)), ((1, 2), (1, True)), ((1, 1), (False, 1)), "11",
] + [((1, 1), value) for value in NO_FRACTIONS]


def value_of(rates, board):
    return oracles.value_told(rates, oracles.table_weight_told(*board))


def rate_of(rates, hop):
    named = dict(zip(("in", "out", "back"), rates))
    return Fraction(*named.get(hop[0], (1, 1)))


def away_told(rates, board):
    return value_of(rates, board) * sum(rate_of(rates, hop) for hop in hops_told(board[0]))


class Flows(unittest.TestCase):
    def test_what_leads_away(self):
        for rates in ALL_RATES:
            for board in some_boards()[::3]:
                self.assertEqual(leads_away(rates, board), oracles.pair(away_told(rates, board)))

    def test_what_leads_to_all_boards(self):
        for rates in (R, S, WIDE, NARROW):
            for places in range(1, 5):
                coming = {board: Fraction(0) for board in all_tables(places)}
                for board, hop in all_hops(all_tables(places)):
                    coming[hopped_told(board, hop)] += rate_of(rates, hop) * value_of(rates, board)
                for board in all_tables(places):
                    self.assertEqual(leads_to(rates, board), oracles.pair(coming[board]))

    def test_both_are_the_same_at_all_rates(self):
        for rates in ALL_RATES + (BELOW, NO_FALL):
            for board in some_boards()[::4]:
                self.assertEqual(leads_to(rates, board), leads_away(rates, board))


class Shares(unittest.TestCase):
    def test_shares_of_all_boards(self):
        for rates in ALL_RATES:
            for places in range(1, 5):
                values = [value_of(rates, board) for board in all_tables(places)]
                told = tuple(oracles.pair(value / sum(values)) for value in values)
                self.assertEqual(board_shares(rates, places), told)
                for board, share in list(zip(all_tables(places), told))[::7]:
                    self.assertEqual(board_share(rates, board), share)

    def test_the_share_of_a_row_is_that_of_its_boards(self):
        for rates in (S, WIDE):
            for row in all_rows(4):
                shares = [Fraction(*board_share(rates, board)) for board in all_tables(4) if board[0] == row]
                self.assertEqual(oracles.pair(sum(shares)), share_of(rates, row))

    def test_long_boards(self):
        for rates in (S, NARROW):
            board = ((1, 0) * 5, ((0, 1, "car"), (2, 9, "gap"), (4, 7, "gap")))
            told = value_of(rates, board) / oracles.moment_told(rates, 10)
            self.assertEqual(board_share(rates, board), oracles.pair(told))

    def test_too_many_places(self):
        for places in (11, 12):
            check_too_many(self, 10, board_share, S, ((1,) * places, ()))
            check_error(self, InvalidRates, board_share, (None, ((1,) * places, ())))
        check_error(self, InvalidBoard, board_share, (S, ((1,) * 13, ())))
        for places in (5, 6, 12):
            check_too_many(self, 4, board_shares, S, places)
            # here there are too many places ahead of wrong shares
            check_too_many(self, 4, are_boards_steady, S, places, ((1, 2),))
            check_too_many(self, 4, are_boards_steady, S, places, None)
        check_error(self, InvalidPlaces, are_boards_steady, (S, 13, None))


class Steady(unittest.TestCase):
    def test_the_shares_of_boards_are_steady(self):
        for rates in ALL_RATES + (BELOW, NO_FALL):
            for places in range(1, 5):
                self.assertIs(are_boards_steady(rates, places, board_shares(rates, places)), True)

    def test_others_are_not(self):
        for places in range(1, 5):
            self.assertIs(are_boards_steady(R, places, board_shares(S, places)), False)
            many = len(all_tables(places))
            for at in range(many):
                alone = tuple((1, 1) if some == at else (0, 1) for some in range(many))
                self.assertIs(are_boards_steady(S, places, alone), False)
        shares = board_shares(S, 3)
        moved = tuple(sorted(shares))
        self.assertNotEqual(moved, shares)
        self.assertIs(are_boards_steady(S, 3, moved), False)

    def test_shares_that_are_steady_for_rows_alone_are_not_enough(self):
        # all the share of the row (1, 0) goes to one of its three boards
        boards = all_tables(2)
        shares = dict(zip(boards, board_shares(S, 2)))
        alone = sum(Fraction(*share) for board, share in shares.items() if board[0] == A)
        for kept in boards:
            if kept[0] == A:
                told = tuple(shares[board] if board[0] != A else oracles.pair(alone if board == kept else 0)
                             for board in boards)
                self.assertIs(are_boards_steady(S, 2, told), False)

    def test_fractions_of_any_size(self):
        for top in (1, BIG // 2):
            shares = ((top, BIG), (BIG - top, BIG))
            shares = tuple(oracles.pair(Fraction(*share)) for share in shares)
            self.assertIs(are_boards_steady(S, 1, shares), False)


class Wrong(unittest.TestCase):
    def test_errors_in_order(self):
        rates = (S, InvalidRates, WRONG_RATES)
        boards = (Y, InvalidBoard, NO_BOARDS)
        for function in (leads_away, leads_to, board_share):
            check_arguments(self, function, rates, boards)
        check_arguments(self, board_shares, rates, (2, InvalidPlaces, WRONG_PLACES))
        check_arguments(self, are_boards_steady, rates, (1, InvalidPlaces, WRONG_PLACES),
                        (((1, 2), (1, 2)), InvalidShares, NO_SHARES))
        shares = board_shares(S, 2)
        for wrong in (shares[1:], shares + ((0, 1),), list(shares), shares[:-1] + ((0, 1),)):
            check_error(self, InvalidShares, are_boards_steady, (S, 2, wrong))


if __name__ == "__main__":
    unittest.main()
