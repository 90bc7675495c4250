"""Ways of boards: hops one after another."""

from hoproads.errors import InvalidHops, Unlike
from hoproads.plain import ascending, check_most
from hoproads.roads import hop_back, hopped, hops_of, is_hop_form
from hoproads.tablehops import board_behind, check_board, sources_of

MOST_HOPS = 60
MOST_PLACES_BACK = 5
MOST_PLACES_BETWEEN = 4


def are_hops(value):
    """Whether any value is a tuple of at most 60 pairs, as hops are."""
    if not isinstance(value, tuple) or len(value) > MOST_HOPS:
        return False
    return all([is_hop_form(hop) for hop in value])


def rows_by_hops(row):
    """The dict from all hops of a row to the rows behind them."""
    return {hop: hopped(row, hop) for hop in hops_of(row)}


def rows_by_hops_to(row):
    """The dict from all hops that lead to a row to the rows from which they do."""
    found = {}
    if row[0] == 1:
        found[("in", 0)] = (0,) + row[1:]
    if row[-1] == 0:
        found[("out", len(row) - 1)] = row[:-1] + (1,)
    for hop, other in rows_by_hops(row).items():
        if hop[0] in ("on", "back"):
            found[hop_back(row, hop)] = other
    return found


def are_led(row, hops, rows_by):
    """Whether some hops, one after another, lead from a row, each by the dict that a function tells of a row."""
    left = row
    for hop in hops:
        rows = rows_by(left)
        if hop not in rows:
            return False
        left = rows[hop]
    return True


def boards_along(board, hops):
    """The list of a board, and of what it is behind each of some hops."""
    check_board(board)
    if not are_hops(hops) or not are_led(board[0], hops, rows_by_hops):
        raise InvalidHops("a tuple of at most 60 hops, each of the row behind the ones ahead, is asked for")
    found = [board]
    for hop in hops:
        found.append(board_behind(found[-1], hop))
    return found


def back_along(board, hops):
    """The ascending list of all boards from which some hops, one after another, lead to a board."""
    check_board(board)
    if not are_hops(hops) or not are_led(board[0], hops[::-1], rows_by_hops_to):
        raise InvalidHops("a tuple of at most 60 hops that lead to the row of the board is asked for")
    check_most(len(board[0]), MOST_PLACES_BACK)
    boards = [board]
    for hop in hops[::-1]:
        pairs = [pair for some in boards for pair in sources_of(some)]
        # a hop leads from each board to just one, so none comes up twice
        boards = [source for source, led in pairs if led == hop]
    return ascending(boards)


def ways_from(board, other):
    """The dict from boards to the pairs (board, hop) by which they first come, until the other one comes."""
    found = {board: None}
    queue = [board]
    at = 0
    while other not in found:
        some = queue[at]
        at = at + 1
        for hop in hops_of(some[0]):
            led = board_behind(some, hop)
            if led not in found:
                found[led] = (some, hop)
                queue.append(led)
    return found


def hops_between(board, other):
    """Any tuple of hops, as few as can be, that leads from a board to another one."""
    check_board(board)
    check_board(other)
    if len(board[0]) != len(other[0]):
        raise Unlike("boards of as many places are asked for")
    check_most(len(board[0]), MOST_PLACES_BETWEEN)
    found = ways_from(board, other)
    hops = []
    pair = found[other]
    while pair is not None:
        hops.append(pair[1])
        pair = found[pair[0]]
    return tuple(hops[::-1])
