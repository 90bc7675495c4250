"""Lists and numbers of stair tables."""

from math import factorial

from hoproads.errors import InvalidNumber
from hoproads.plain import check_most, is_integer
from hoproads.roads import all_rows, check_places, check_row
from hoproads.stairs import cells_of, check_table
from hoproads.weights import terms_of_row

MOST_PLACES_OF_A_LIST = 7
MOST_PLACES_OF_ALL_LISTS = 5
MOST_PLACES_OF_A_NUMBER = 6
MOST_PLACES_OF_A_COUNT = 60


def marks_at(cell, table):
    """The ascending list of the marks that can stand in a cell behind all those of a stair table."""
    car, gap = cell
    if table and table[-1][0] == car and table[-1][2] == "car":
        return []
    # a mark that strikes the gap loses the cells above it, so none of them may have a mark
    if gap in [mark[1] for mark in table]:
        return [(car, gap, "car")]
    return [(car, gap, "car"), (car, gap, "gap")]


def tables_from(cells, table):
    """The ascending list of a stair table and of all that come of it by marks in the cells, behind its own."""
    found = [table]
    for at, cell in enumerate(cells):
        for mark in marks_at(cell, table):
            found.extend(tables_from(cells[at + 1:], table + (mark,)))
    return found


def tables_of(row):
    """The ascending list of all stair tables of a row."""
    check_row(row)
    check_most(len(row), MOST_PLACES_OF_A_LIST)
    return tables_from(cells_of(row), ())


def count_tables(row):
    """How many stair tables a row has."""
    check_row(row)
    return sum(list(terms_of_row(row).values()))


def all_tables(places):
    """The ascending list of the pairs of a row of so many places and of one of its stair tables."""
    check_places(places)
    check_most(places, MOST_PLACES_OF_ALL_LISTS)
    return [(row, table) for row in all_rows(places) for table in tables_of(row)]


def count_all_tables(places):
    """How many pairs of a row of so many places and of one of its stair tables there are."""
    check_places(places, MOST_PLACES_OF_A_COUNT)
    return factorial(places + 1)


def table_number(row, table):
    """The index of a row and of a stair table of it among all such pairs of as many places."""
    check_table(row, table)
    check_most(len(row), MOST_PLACES_OF_A_NUMBER)
    ahead = [count_tables(other) for other in all_rows(len(row)) if other < row]
    return sum(ahead) + tables_of(row).index(table)


def table_with(places, number):
    """The pair of a row of so many places and of a stair table of it with an index among all."""
    check_places(places)
    if not is_integer(number) or number < 0:
        raise InvalidNumber("an integer from 0 on is asked for")
    check_most(places, MOST_PLACES_OF_A_NUMBER)
    left = number
    for row in all_rows(places):
        many = count_tables(row)
        if left < many:
            return (row, tables_of(row)[left])
        left = left - many
    raise InvalidNumber(f"there are no more than {count_all_tables(places)} stair tables")
