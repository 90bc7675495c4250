"""Stair tables of a row: cells, marks, weights, mirrors."""

from hoproads.errors import InvalidTable
from hoproads.plain import ascending, is_integer
from hoproads.roads import check_row


def cells_of(row):
    """The ascending list of all cells of a row."""
    check_row(row)
    places = len(row)
    return [(car, gap) for car in range(places) for gap in range(car + 1, places) if row[car] > row[gap]]


def mirrored_row(row):
    """The row read from its end, with cars and free places exchanged."""
    check_row(row)
    return tuple([1 - item for item in row[::-1]])


def is_mark(cells, value):
    """Whether any value is a mark in one of the cells."""
    if not isinstance(value, tuple) or len(value) != 3:
        return False
    car, gap, word = value
    if not is_integer(car) or not is_integer(gap) or not isinstance(word, str):
        return False
    return (car, gap) in cells and word in ("car", "gap")


def loses(mark, cell):
    """Whether a cell is lost by a mark."""
    car, gap, word = mark
    if word == "car":
        return cell[0] == car and cell[1] > gap
    return cell[1] == gap and cell[0] < car


def is_lost(table, cell):
    """Whether a cell is lost by a mark of a stair table."""
    return any([loses(mark, cell) for mark in table])


def is_table(row, value):
    """Whether any value is a stair table of a row."""
    cells = cells_of(row)
    if not isinstance(value, tuple) or not all([is_mark(cells, mark) for mark in value]):
        return False
    marked = [mark[:2] for mark in value]
    if not all([marked[at - 1] < marked[at] for at in range(1, len(marked))]):
        return False
    return not any([is_lost(value, cell) for cell in marked])


def check_table(row, table):
    """Raise InvalidRow for what is no row, and InvalidTable for what is no stair table of it."""
    if not is_table(row, table):
        raise InvalidTable("a stair table of the row is asked for")


def open_cells(row, table):
    """The ascending list of the open cells of a stair table."""
    check_table(row, table)
    marked = [mark[:2] for mark in table]
    return [cell for cell in cells_of(row) if cell not in marked and not is_lost(table, cell)]


def lost_cells(row, table):
    """The ascending list of the lost cells of a stair table."""
    check_table(row, table)
    return [cell for cell in cells_of(row) if is_lost(table, cell)]


def struck_cars(row, table):
    """The ascending list of all cars that are struck."""
    check_table(row, table)
    return ascending([car for car, gap, word in table if word == "car"])


def struck_gaps(row, table):
    """The ascending list of all free places that are struck."""
    check_table(row, table)
    return ascending([gap for car, gap, word in table if word == "gap"])


def table_weight(row, table):
    """The weight of a stair table."""
    still_open = len(open_cells(row, table))
    gaps = row.count(0) - len(struck_gaps(row, table))
    cars = row.count(1) - len(struck_cars(row, table))
    return ((still_open, gaps, cars, 1),)


def mirrored_table(row, table):
    """The stair table, of the row mirrored, that is a stair table mirrored."""
    check_table(row, table)
    last = len(row) - 1
    marks = [(last - gap, last - car, "gap" if word == "car" else "car") for car, gap, word in table]
    return tuple(ascending(marks))
