"""Boards, pairs of a row and of a stair table of it, and the hops done on them.

A board lies in the round of what is left of it by a hop that goes round, just
where this hop leads on; so the boards of a round are told by their hops there.
"""

from hoproads.errors import InvalidBoard, InvalidHop
from hoproads.plain import ascending
from hoproads.roads import check_hop, check_places, hop_back, hopped, hops_of, is_hop_form, is_row
from hoproads.stairs import is_table, mirrored_row, mirrored_table


def is_board(value):
    """Whether any value is a board of 1 to 12 places."""
    if not isinstance(value, tuple) or len(value) != 2:
        return False
    return is_row(value[0]) and is_table(value[0], value[1])


def check_board(board):
    """Raise InvalidBoard for what is no board of 1 to 12 places."""
    if not is_board(board):
        raise InvalidBoard("a board is asked for: a row of 1 to 12 places, and a stair table of it")


def check_board_hop(board, hop):
    """Raise InvalidBoard for what is no board, and InvalidHop for what is no hop of its row."""
    check_board(board)
    check_hop(board[0], hop)


def word_in(table, cell):
    """The word of the mark in a cell, or None."""
    words = [mark[2] for mark in table if mark[:2] == cell]
    return words[0] if words else None


def goes_round(board, hop):
    """Whether a hop of the row of a board goes round."""
    word, place = hop
    if word == "on":
        # the cell of a car and of the next place can't be lost: it has a mark, or is open
        return word_in(board[1], (place, place + 1)) is not None
    return word != "back"


def check_round_hop(board, hop):
    """Raise the errors for what is no board, and for what is no hop of it that goes round."""
    check_board_hop(board, hop)
    if not goes_round(board, hop):
        raise InvalidHop("a hop that goes round is asked for")


def with_place_out(board, place):
    """A board without a place, and without the marks with it."""
    row, table = board
    kept = [mark for mark in table if place not in mark[:2]]
    marks = [(car - int(car > place), gap - int(gap > place), word) for car, gap, word in kept]
    return (row[:place] + row[place + 1:], tuple(marks))


def with_place_in(board, place, item, new_marks):
    """A board with a place more, with this item, and with new marks."""
    row, table = board
    marks = [(car + int(car >= place), gap + int(gap >= place), word) for car, gap, word in table]
    return (row[:place] + (item,) + row[place:], tuple(ascending(marks + new_marks)))


def hops_in_round(small):
    """The list of the hops by which each board of the round of a board leads on to the next one."""
    row = small[0]
    gaps = [place for place, item in enumerate(row) if item == 0]
    cars = [place for place, item in enumerate(row) if item == 1]
    return [("in", 0)] + [("on", gap) for gap in gaps] + [("out", len(row))] + [("on", car) for car in cars[::-1]]


def board_in_round(small, hop):
    """The board in the round of a board that leads on by a hop there."""
    word, place = hop
    if word == "in":
        return with_place_in(small, 0, 0, [])
    if word == "out":
        return with_place_in(small, place, 1, [])
    if small[0][place] == 0:
        return with_place_in(small, place, 1, [(place, place + 1, "car")])
    return with_place_in(small, place + 1, 0, [(place, place + 1, "gap")])


def left_by(board, hop):
    """The board that is left by a hop that goes round."""
    word, place = hop
    if word == "on" and word_in(board[1], (place, place + 1)) == "gap":
        return with_place_out(board, place + 1)
    return with_place_out(board, place)


def led_on(board, hop, steps):
    """The board behind so many steps in the round of what is left by a hop."""
    small = left_by(board, hop)
    hops = hops_in_round(small)
    return board_in_round(small, hops[(hops.index(hop) + steps) % len(hops)])


def exchanged(board, hop):
    """The board behind a plain hop."""
    word, place = hop
    other = place + 1 if word == "on" else place - 1
    gone = {place: other, other: place}
    marks = [(gone.get(car, car), gone.get(gap, gap), told) for car, gap, told in board[1]]
    return (hopped(board[0], hop), tuple(ascending(marks)))


def board_behind(board, hop):
    """The board that comes of a board by a hop."""
    return led_on(board, hop, 1) if goes_round(board, hop) else exchanged(board, hop)


def source_beside(board, hop):
    """The pair (board, hop) by which a board comes that goes with a hop of its own.

    If this is plain, it is led back by another plain hop; if it goes round,
    the board comes of the one ahead of it in the same round.
    """
    if not goes_round(board, hop):
        return (exchanged(board, hop), hop_back(board[0], hop))
    small = left_by(board, hop)
    hops = hops_in_round(small)
    ahead = hops[hops.index(hop) - 1]
    return (board_in_round(small, ahead), ahead)


def sources_of(board):
    """The list of all pairs (board, hop) by which a board comes."""
    return [source_beside(board, hop) for hop in hops_of(board[0])]


def is_plain_hop(board, hop):
    """Whether a hop of the row of a board is plain."""
    check_board_hop(board, hop)
    return not goes_round(board, hop)


def board_hopped(board, hop):
    """The board that comes of a board by a hop of its row."""
    check_board_hop(board, hop)
    return board_behind(board, hop)


def board_left(board, hop):
    """The board that is left by a hop that goes round."""
    check_round_hop(board, hop)
    return left_by(board, hop)


def hops_to(board):
    """The ascending list of all pairs (board, hop) by which a board comes."""
    check_board(board)
    return ascending(sources_of(board))


def board_mirrored(board):
    """A board mirrored."""
    check_board(board)
    row, table = board
    return (mirrored_row(row), mirrored_table(row, table))


def is_hop_of_some(places, value):
    """Whether any value is a hop of some row of so many places."""
    if not is_hop_form(value, places):
        return False
    word, place = value
    if word == "in":
        return place == 0
    if word == "out":
        return place == places - 1
    if word == "on":
        return place < places - 1
    return word == "back" and place > 0


def hop_mirrored(places, hop):
    """A hop of some row of so many places, mirrored."""
    check_places(places)
    if not is_hop_of_some(places, hop):
        raise InvalidHop("a hop of some row of so many places is asked for")
    word, place = hop
    if word == "in":
        return ("out", places - 1)
    if word == "out":
        return ("in", 0)
    return (word, places - 2 - place) if word == "on" else (word, places - place)
