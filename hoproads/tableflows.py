"""What leads away from boards and to them, and their shares."""

from hoproads.errors import InvalidShares
from hoproads.plain import added, check_most, divided, times, total_of
from hoproads.roads import check_places, check_rates, hops_of, rate_away, rate_of
from hoproads.shares import are_parts_of_one
from hoproads.stairlists import all_tables
from hoproads.stairs import table_weight
from hoproads.steady import whole_value
from hoproads.tablehops import board_behind, check_board, hops_to
from hoproads.weights import value_at

MOST_PLACES_OF_A_SHARE = 10
MOST_PLACES_OF_SHARES = 4


def board_value(rates, board):
    """The value of the weight of the table of a board."""
    row, table = board
    return value_at(rates, table_weight(row, table))


def leads_away(rates, board):
    """What leads away from a board."""
    check_rates(rates)
    check_board(board)
    return times(board_value(rates, board), rate_away(board[0], rates))


def leads_to(rates, board):
    """What leads to a board."""
    check_rates(rates)
    check_board(board)
    return total_of([times(rate_of(rates, hop), board_value(rates, source)) for source, hop in hops_to(board)])


def board_share(rates, board):
    """The share of a board."""
    check_rates(rates)
    check_board(board)
    check_most(len(board[0]), MOST_PLACES_OF_A_SHARE)
    return divided(board_value(rates, board), whole_value(rates, len(board[0])))


def check_few_places(places):
    """Raise InvalidPlaces for what is no number of places, and TooMany for more than 4."""
    check_places(places)
    check_most(places, MOST_PLACES_OF_SHARES)


def board_shares(rates, places):
    """The tuple of the shares of all boards of so many places, in ascending order of these."""
    check_rates(rates)
    check_few_places(places)
    values = [board_value(rates, board) for board in all_tables(places)]
    whole = total_of(values)
    return tuple([divided(value, whole) for value in values])


def are_boards_steady(rates, places, shares):
    """Whether shares of all boards of so many places are steady: as much goes from each as comes to it."""
    check_rates(rates)
    check_few_places(places)
    boards = all_tables(places)
    if not are_parts_of_one(shares, len(boards)):
        raise InvalidShares("a share for each board is asked for, which come to 1")
    coming = {board: (0, 1) for board in boards}
    for board, share in zip(boards, shares):
        for hop in hops_of(board[0]):
            led = board_behind(board, hop)
            coming[led] = added(coming[led], times(rate_of(rates, hop), share))
    going = [times(share, rate_away(board[0], rates)) for board, share in zip(boards, shares)]
    return going == list(coming.values())
