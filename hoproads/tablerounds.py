"""Rounds of boards."""

from math import factorial

from hoproads.errors import InvalidBoard
from hoproads.plain import ascending, check_number
from hoproads.roads import check_places, hops_of
from hoproads.tablehops import (board_in_round, check_board, check_round_hop, goes_round, hops_in_round, is_board,
                                led_on, left_by)

MOST_PLACES_OF_SMALL = 11
MOST_TIMES = 10 ** 30
MOST_PLACES_OF_A_COUNT = 60


def is_small(value):
    """Whether any value is a board of 0 to 11 places."""
    if value == ((), ()):
        return True
    return is_board(value) and len(value[0]) <= MOST_PLACES_OF_SMALL


def check_small(small):
    """Raise InvalidBoard for what is no board of 0 to 11 places."""
    if not is_small(small):
        raise InvalidBoard("a board of 0 to 11 places is asked for")


def round_of(small):
    """The list of the boards of the round of a board."""
    check_small(small)
    return [board_in_round(small, hop) for hop in hops_in_round(small)]


def round_hops(small):
    """The list of the hops, one for each board of the round of a board, by which the next one comes of it."""
    check_small(small)
    return hops_in_round(small)


def rounds_with(board):
    """The ascending list of the pairs (small, index) of all boards in whose round a board lies, and where."""
    check_board(board)
    found = []
    for hop in hops_of(board[0]):
        if goes_round(board, hop):
            small = left_by(board, hop)
            found.append((small, hops_in_round(small).index(hop)))
    return ascending(found)


def led_round(board, hop, times):
    """The board behind so many steps in the round of what is left by a hop."""
    check_round_hop(board, hop)
    check_number(times, 0, MOST_TIMES)
    return led_on(board, hop, times)


def count_rounds(places):
    """How many boards of one place less than so many there are."""
    check_places(places, MOST_PLACES_OF_A_COUNT)
    return factorial(places)
