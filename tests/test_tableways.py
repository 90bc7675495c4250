"""Ways of boards: [72], and the guarantee on them in [3]."""

import random
import unittest

from hoproads.errors import InvalidBoard, InvalidHops, Unlike
from hoproads.stairlists import all_tables
from hoproads.tableways import back_along, boards_along, hops_between
from tests.boards import LONG_BOARDS, NO_BOARDS, all_hops, hopped_told, some_boards
from tests.support import A, STRAYS, check_arguments, check_error, check_too_many
from tests.test_roads import NO_HOPS, hops_told

X, Y = (A, ()), (A, ((0, 1, "car"),))
NO_WAYS = [value for value in STRAYS if value != ()] + [(hop,) for hop in NO_HOPS] + [
    [("on", 0)], (["on", 0],), ("on", 0), "", (("in", 0),), (("on", 1),), (("back", 0),), (("out", 0),),
]


def random_way(seed, board, many):
    """The hops, and the boards, of a way by chance."""
    chance = random.Random(seed)
    hops, boards = [], [board]
    for _ in range(many):
        hops.append(chance.choice(sorted(hops_told(boards[-1][0]))))
        boards.append(hopped_told(boards[-1], hops[-1]))
    return tuple(hops), boards


def distances(board):
    """How many hops lead at least from a board to each board."""
    found = {board: 0}
    reached = [board]
    while reached:
        behind = []
        for some, hop in all_hops(reached):
            led = hopped_told(some, hop)
            if led not in found:
                found[led] = found[some] + 1
                behind.append(led)
        reached = behind
    return found


class Along(unittest.TestCase):
    def test_ways_by_chance(self):
        for seed, board in enumerate(some_boards()[::9] + LONG_BOARDS[:4]):
            for many in (0, 1, 2, 17, 60):
                hops, boards = random_way(seed, board, many)
                self.assertEqual(boards_along(board, hops), boards)

    def test_hops_that_do_not_fit(self):
        for seed, board in enumerate(some_boards()[::9]):
            hops, boards = random_way(seed, board, 12)
            for at in range(13):
                for hop in [("in", 0), ("out", len(board[0]) - 1), ("on", 0), ("back", 1), ("on", 1), ("back", 0)]:
                    wrong = hops[:at] + (hop,)
                    if hop in hops_told(boards[at][0]):
                        self.assertEqual(len(boards_along(board, wrong)), at + 2)
                    else:
                        check_error(self, InvalidHops, boards_along, (board, wrong))

    def test_too_long_a_way(self):
        round_and_round = (("on", 0), ("back", 1)) * 31
        self.assertEqual(len(boards_along(Y, (("on", 0), ("out", 1), ("in", 0)) * 20)), 61)
        self.assertEqual(len(boards_along(X, round_and_round[:60])), 61)
        check_error(self, InvalidHops, boards_along, (X, round_and_round[:61]))
        check_error(self, InvalidHops, boards_along, (X, round_and_round))

    def test_lists_are_new(self):
        boards_along(X, ()).clear()
        self.assertEqual(boards_along(X, ()), [X])


class Back(unittest.TestCase):
    def test_all_ways_of_two_hops(self):
        for places in range(1, 5):
            found = {}
            for board, hop in all_hops(all_tables(places)):
                middle = hopped_told(board, hop)
                for more in hops_told(middle[0]):
                    found.setdefault((hopped_told(middle, more), (hop, more)), []).append(board)
            for (board, hops), told in list(found.items())[::3]:
                self.assertEqual(back_along(board, hops), sorted(told))

    def test_all_hops(self):
        for places in range(1, 6):
            found = {}
            for board, hop in all_hops(all_tables(places)):
                found.setdefault((hopped_told(board, hop), hop), []).append(board)
            rows = {}
            for row in {board[0] for board in all_tables(places)}:
                for hop, behind in hops_told(row).items():
                    rows.setdefault(behind, []).append(hop)
            for board in all_tables(places)[::1 if places < 5 else 5]:
                for hop in rows[board[0]]:
                    self.assertEqual(back_along(board, (hop,)), sorted(found.get((board, hop), [])))
                for hop in [("in", 0), ("out", places - 1), ("on", 0), ("back", places - 1), ("back", 0)]:
                    if hop not in rows[board[0]]:
                        check_error(self, InvalidHops, back_along, (board, (hop,)))

    def test_long_ways(self):
        for seed, board in enumerate(all_tables(5)[::70] + all_tables(4)[::17] + all_tables(1)):
            for many in (0, 5, 60):
                hops, boards = random_way(seed, board, many)
                told = []
                for some in all_tables(len(board[0])):
                    if some[0] == board[0]:
                        led = some
                        for hop in hops:
                            led = hopped_told(led, hop)
                        if led == boards[-1]:
                            told.append(some)
                self.assertEqual(back_along(boards[-1], hops), told)
                self.assertIn(board, told)

    def test_there_can_be_none(self):
        self.assertEqual(back_along(Y, (("on", 0), ("out", 1), ("in", 0))), [((1, 0), ()), Y, ((1, 0), ((0, 1, "gap"),))])
        self.assertEqual(back_along(X, (("in", 0),)), [])
        self.assertEqual(back_along(X, ()), [X])

    def test_too_many_places_come_behind_the_hops(self):
        for board in (((0, 1, 0, 1, 0, 1), ()), LONG_BOARDS[0]):
            hops, boards = random_way(1, board, 7)
            check_too_many(self, 5, back_along, boards[-1], hops)
            check_too_many(self, 5, back_along, board, ())
            check_error(self, InvalidHops, back_along, (board, (("mirror", 0),)))
        hops, boards = random_way(1, X, 61)
        check_error(self, InvalidHops, back_along, (boards[-1], hops))
        self.assertIn(boards[1], back_along(boards[-1], hops[1:]))

    def test_lists_are_new(self):
        back_along(X, ()).clear()
        self.assertEqual(back_along(X, ()), [X])


class Between(unittest.TestCase):
    def test_from_each_board_to_each_other_one(self):
        for places in range(1, 5):
            boards = all_tables(places)
            for board in boards[::1 if places < 4 else 11]:
                told = distances(board)
                self.assertEqual(len(told), len(boards))
                for other in boards:
                    hops = hops_between(board, other)
                    self.assertIsInstance(hops, tuple)
                    self.assertEqual(len(hops), told[other])
                    led = board
                    for hop in hops:
                        self.assertIn(hop, hops_told(led[0]))
                        led = hopped_told(led, hop)
                    self.assertEqual(led, other)
                self.assertEqual(hops_between(board, board), ())

    def test_unlike_numbers_of_places_and_too_many(self):
        check_error(self, Unlike, hops_between, (X, ((1,), ())))
        check_error(self, Unlike, hops_between, (((1,), ()), X))
        check_error(self, Unlike, hops_between, (((1,) * 5, ()), ((1,) * 6, ())))
        check_error(self, Unlike, hops_between, (((1,) * 4, ()), ((1,) * 5, ())))
        for places in (5, 12):
            check_too_many(self, 4, hops_between, ((1,) * places, ()), ((1,) * places, ()))
            check_too_many(self, 4, hops_between, ((1,) * places, ()), ((0,) * places, ()))


class Wrong(unittest.TestCase):
    def test_errors_in_order(self):
        boards = (Y, InvalidBoard, NO_BOARDS)
        check_arguments(self, boards_along, boards, ((("on", 0), ("out", 1)), InvalidHops, NO_WAYS))
        wrong = [value for value in NO_WAYS if value not in ((("in", 0),), (("back", 1),))]
        check_arguments(self, back_along, boards, ((("out", 1), ("in", 0)), InvalidHops, wrong + [(("in", 0), ("in", 0))]))
        check_arguments(self, hops_between, boards, (X, InvalidBoard, NO_BOARDS))


if __name__ == "__main__":
    unittest.main()
