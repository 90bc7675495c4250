"""Boards and the hops done on them: [26], [28], [30], [69], and the guarantees on them in [3]."""

import unittest

from hoproads.errors import InvalidBoard, InvalidHop, InvalidPlaces
from hoproads.stairlists import all_tables
from hoproads.stairs import table_weight
from hoproads.tablehops import (board_hopped, board_left, board_mirrored, hop_mirrored, hops_to, is_board, is_plain_hop)
from tests.boards import (LONG_BOARDS, NO_BOARDS, all_hops, hopped_told, is_plain_told, left_told, mirrored_told,
                          some_boards)
from tests.support import A, BIG, WRONG_PLACES, check_arguments, check_error
from tests.test_roads import NO_HOPS, hops_told

X, Y = (A, ()), (A, ((0, 1, "car"),))


class IsBoard(unittest.TestCase):
    def test_boards(self):
        self.assertGreater(len(LONG_BOARDS), 10)
        for board in some_boards():
            self.assertIs(is_board(board), True)
            self.assertIs(is_board(list(board)), False)
            if len(board[1]) > 1:
                self.assertIs(is_board((board[0], board[1][::-1])), False)

    def test_what_is_none(self):
        for value in NO_BOARDS:
            self.assertIs(is_board(value), False, value)


class Hops(unittest.TestCase):
    def test_hops_of_all_boards(self):
        plain = set()
        for board, hop in all_hops(some_boards()):
            self.assertIs(is_plain_hop(board, hop), is_plain_told(board, hop))
            told = hopped_told(board, hop)
            self.assertEqual(board_hopped(board, hop), told)
            self.assertIs(is_board(told), True)
            self.assertEqual(told[0], hops_told(board[0])[hop])
            plain.add((hop[0], is_plain_told(board, hop)))
        self.assertEqual(plain, {("in", False), ("out", False), ("on", False), ("on", True), ("back", True)})

    def test_what_is_left(self):
        for board, hop in all_hops(some_boards()):
            if is_plain_told(board, hop):
                check_error(self, InvalidHop, board_left, (board, hop))
            else:
                self.assertEqual(board_left(board, hop), left_told(board, hop))

    def test_boards_of_one_place(self):
        self.assertEqual(board_hopped(((0,), ()), ("in", 0)), ((1,), ()))
        self.assertEqual(board_hopped(((1,), ()), ("out", 0)), ((0,), ()))
        self.assertEqual(board_left(((1,), ()), ("out", 0)), ((), ()))

    def test_weights_of_plain_hops(self):
        # a plain hop on takes an open cell away, and one back gives it back
        for board, hop in all_hops(some_boards()):
            if is_plain_told(board, hop):
                (x, y, z, many), = table_weight(*board)
                change = -1 if hop[0] == "on" else 1
                self.assertEqual(table_weight(*board_hopped(board, hop)), ((x + change, y, z, many),))

    def test_all_errors_of_hops_are_told_by_the_row(self):
        some = {("in", 0), ("on", 0), ("on", 1), ("back", 1), ("back", 2), ("out", 2), ("out", 1)}
        never = [hop for hop in NO_HOPS if hop not in [("in", False), ("on", False), ("on", True), ("back", True)]]
        for board in all_tables(3):
            for hop in never + [(word, bool(place)) for word, place in some] + sorted(some - set(hops_told(board[0]))):
                for function in (is_plain_hop, board_hopped, board_left):
                    check_error(self, InvalidHop, function, (board, hop))


class HopsTo(unittest.TestCase):
    def test_all_hops_to_all_boards(self):
        for places in range(1, 6):
            found = {board: [] for board in all_tables(places)}
            for board, hop in all_hops(all_tables(places)):
                found[board_hopped(board, hop)].append((board, hop))
            for board in all_tables(places):
                self.assertEqual(hops_to(board), sorted(found[board]))

    def test_as_many_lead_to_each_board_as_away(self):
        for board in some_boards():
            found = hops_to(board)
            self.assertEqual(len(found), len(hops_told(board[0])))
            self.assertEqual(found, sorted(set(found)))
            for source, hop in found:
                self.assertIs(is_board(source), True)
                self.assertEqual(hopped_told(source, hop), board)

    def test_lists_are_new(self):
        hops_to(Y).clear()
        self.assertEqual(len(hops_to(Y)), 1)


class Mirrors(unittest.TestCase):
    def test_boards(self):
        for board in some_boards():
            self.assertEqual(board_mirrored(board), mirrored_told(board))
            self.assertEqual(board_mirrored(board_mirrored(board)), board)

    def test_hops(self):
        for places in range(1, 13):
            self.assertEqual(hop_mirrored(places, ("in", 0)), ("out", places - 1))
            self.assertEqual(hop_mirrored(places, ("out", places - 1)), ("in", 0))
            for place in range(places - 1):
                self.assertEqual(hop_mirrored(places, ("on", place)), ("on", places - 2 - place))
                self.assertEqual(hop_mirrored(places, ("back", place + 1)), ("back", places - 1 - place))

    def test_hops_that_no_row_can_do(self):
        words = ("in", "out", "on", "back", "hop", "")
        for places in range(1, 13):
            can = {("in", 0), ("out", places - 1)} | {("on", place) for place in range(places - 1)}
            can |= {("back", place) for place in range(1, places)}
            for hop in [(word, place) for word in words for place in range(-1, 14)]:
                if hop in can:
                    self.assertEqual(hop_mirrored(places, hop_mirrored(places, hop)), hop)
                else:
                    check_error(self, InvalidHop, hop_mirrored, (places, hop))

    def test_mirrored_a_hop_leads_to_what_comes_mirrored(self):
        for board, hop in all_hops(some_boards()):
            mirrored = hop_mirrored(len(board[0]), hop)
            self.assertIn(mirrored, hops_told(mirrored_told(board)[0]))
            self.assertEqual(board_hopped(board_mirrored(board), mirrored), board_mirrored(board_hopped(board, hop)))


class Wrong(unittest.TestCase):
    def test_errors_in_order(self):
        boards = (Y, InvalidBoard, NO_BOARDS)
        hops = (("on", 0), InvalidHop, NO_HOPS + [("in", 0), ("out", 1), ("back", 1)])
        for function in (is_plain_hop, board_hopped, board_left):
            check_arguments(self, function, boards, hops)
        for function in (hops_to, board_mirrored):
            check_arguments(self, function, boards)
        # the place 1 can be left, so True must not be taken for it
        check_arguments(self, board_hopped, (((0, 1), ()), InvalidBoard, NO_BOARDS),
                        (("out", 1), InvalidHop, NO_HOPS + [("on", 0), ("on", 1), ("out", 0)]))
        check_arguments(self, hop_mirrored, (4, InvalidPlaces, WRONG_PLACES),
                        (("back", 3), InvalidHop, NO_HOPS + [("on", 3), ("back", 4), ("out", 2), ("out", 4)]))
        check_error(self, InvalidHop, board_left, (X, ("on", 0)))
        check_error(self, InvalidHop, hop_mirrored, (1, ("on", 0)))
        check_error(self, InvalidHop, hop_mirrored, (12, ("out", BIG)))


if __name__ == "__main__":
    unittest.main()
