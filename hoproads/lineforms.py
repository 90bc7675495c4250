"""Other forms of lines: spent cars, and brackets."""

from hoproads.errors import InvalidBrackets, InvalidSpent
from hoproads.lines import check_line, heights_ahead, last_height, row_of
from hoproads.plain import is_from_to
from hoproads.roads import check_row

MOST_PAIRS = 31


def spent_of(line):
    """The spent cars of a line."""
    check_line(line)
    row = row_of(line)
    return tuple([sum(row[:place]) - line[place] for place, item in enumerate(row) if item == 0])


def heights_of_spent(row, value):
    """The list of the heights of the line under a row with some spent cars, or None if there is none."""
    if not isinstance(value, tuple) or len(value) != row.count(0):
        return None
    heights = []
    cars = 0
    gone = 0
    gaps = 0
    for item in row:
        if item == 1:
            cars = cars + 1
        else:
            # no height is below 0, and none at a gap above the one ahead, so spent cars stay spent
            if not is_from_to(value[gaps], gone, cars):
                return None
            gone = value[gaps]
            gaps = gaps + 1
        heights.append(cars - gone)
    return heights


def line_of_spent(row, value):
    """The line under a row with some spent cars."""
    check_row(row)
    heights = heights_of_spent(row, value)
    if heights is None:
        raise InvalidSpent("the spent cars of a line under the row are asked for")
    return tuple(heights)


def is_spent(row, value):
    """Whether any value is the spent cars of some line under a row."""
    check_row(row)
    return heights_of_spent(row, value) is not None


def brackets_of(line):
    """The brackets of a line."""
    check_line(line)
    pieces = ["("]
    for ahead, height in zip(heights_ahead(line), line):
        pieces.append(")" * (ahead + 1 - height) + "(")
    return "".join(pieces) + ")" * (last_height(line) + 1)


def depths_of(value):
    """The list of how many brackets are open ahead of each one that opens, or None for no brackets at all."""
    if not isinstance(value, str) or not 2 <= len(value) <= 2 * MOST_PAIRS:
        return None
    depths = []
    depth = 0
    for sign in value:
        if sign == "(":
            depths.append(depth)
            depth = depth + 1
        elif sign == ")" and depth > 0:
            depth = depth - 1
        else:
            return None
    return depths if depth == 0 else None


def line_of_brackets(value):
    """The line with some brackets."""
    depths = depths_of(value)
    if depths is None:
        raise InvalidBrackets("the brackets of a line, of 1 to 31 pairs, are asked for")
    # the first bracket stands ahead of all places
    return tuple(depths[1:])
