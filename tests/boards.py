"""Boards, their rounds and hops straight from the definitions [26] to [30], for the tests to compare with."""

from hoproads.melting import melted
from hoproads.stairlists import all_tables, tables_of
from tests import oracles
from tests.support import A, STRAYS, WRONG_ROWS
from tests.test_orders import long_orders
from tests.test_roads import hops_told
from tests.test_tablewalks import LONG_TABLES

# boards of 12 places
LONG_BOARDS = LONG_TABLES + [melted(order) for order in long_orders()[::3]]

NO_BOARDS = STRAYS + [((), ()), (A,), (A, (), ()), [A, ()], ([1, 0], ()), (A, []), (A, None), (A, ((1, 0, "car"),)),
                      (A, ((0, 1, "Car"),)), (A, ((0, 1, "car"), (0, 1, "gap"))), (A, ((0, True, "car"),)),
                      (A, ((False, 1, "car"),)), ((1, False), ()), ((True, 0), ()), (((1, 0), ()),), ((1, 1), ((0, 1, "car"),)),
                      ((1, 0, 0), ((0, 2, "car"), (0, 1, "gap"))), ((1, 0, 0), ((0, 1, "car"), (0, 2, "car"))),
                      ((0,) * 13, ()), ((2, 0), ()), A, "10", (A, "car"), (A, ((0, 1),)), (A, (0, 1, "car"))] + [
    (row, ()) for row in WRONG_ROWS]


def boards_up_to(places):
    return [((), ())] + [pair for many in range(1, places + 1) for pair in all_tables(many)]


def some_boards():
    """All boards of 1 to 4 places, and some of 5, 7 and 12."""
    seven = [((1, 0, 1, 1, 0, 1, 0), table) for table in tables_of((1, 0, 1, 1, 0, 1, 0))[::40]]
    return [board for board in boards_up_to(4) if board[0]] + all_tables(5)[::5] + seven + LONG_BOARDS


def out_told(board, place):
    """A board without a place."""
    row, table = board
    def lower(some):
        return some - 1 if some > place else some
    marks = [(lower(car), lower(gap), word) for car, gap, word in table if car != place and gap != place]
    return (row[:place] + row[place + 1:], tuple(sorted(marks)))


def in_told(board, place, item, *marks):
    """A board with one more place, and with marks more."""
    row, table = board
    def higher(some):
        return some + 1 if some >= place else some
    moved = [(higher(car), higher(gap), word) for car, gap, word in table]
    return (row[:place] + (item,) + row[place:], tuple(sorted(moved + list(marks))))


def round_told(small):
    """The round of a board by [27]: the list of the pairs of a board and of the hop by which the next one comes."""
    row = small[0]
    places = len(row)
    found = [(in_told(small, 0, 0), ("in", 0))]
    for place in range(places):
        if row[place] == 0:
            found.append((in_told(small, place, 1, (place, place + 1, "car")), ("on", place)))
    found.append((in_told(small, places, 1), ("out", places)))
    for place in reversed(range(places)):
        if row[place] == 1:
            found.append((in_told(small, place + 1, 0, (place, place + 1, "gap")), ("on", place)))
    return found


def is_plain_told(board, hop):
    row, table = board
    word, place = hop
    if word == "back":
        return True
    if word != "on":
        return False
    cell = (place, place + 1)
    return cell not in [mark[:2] for mark in table] and cell not in oracles.lost_told(row, table)


def left_told(board, hop):
    """The board that is left by a hop that goes round."""
    word, place = hop
    if word == "in":
        return out_told(board, 0)
    if word == "out":
        return out_told(board, len(board[0]) - 1)
    struck = [mark[2] for mark in board[1] if mark[:2] == (place, place + 1)]
    return out_told(board, place if struck == ["car"] else place + 1)


def hopped_told(board, hop):
    """The board that comes of a board by a hop, by [28]."""
    row, table = board
    word, place = hop
    if is_plain_told(board, hop):
        other = place + 1 if word == "on" else place - 1
        turned = {place: other, other: place}
        marks = [(turned.get(car, car), turned.get(gap, gap), told) for car, gap, told in table]
        return (hops_told(row)[hop], tuple(sorted(marks)))
    boards = [some for some, _ in round_told(left_told(board, hop))]
    return boards[(boards.index(board) + 1) % len(boards)]


def all_hops(boards):
    return [(board, hop) for board in boards for hop in sorted(hops_told(board[0]))]


def mirrored_told(board):
    row, table = board
    last = len(row) - 1
    marks = [(last - gap, last - car, "gap" if word == "car" else "car") for car, gap, word in table]
    return (tuple(1 - item for item in reversed(row)), tuple(sorted(marks)))
