"""Grids of letters and words."""

from hoproads.errors import InvalidWord
from hoproads.plain import check_most, check_number, sum_of_terms
from hoproads.weights import ONE, product_of_weights
from hoproads.words import check_word

MOST_SIZE = 12
MOST_LETTERS_OF_GRIDS = 5
MOST_SIZE_OF_WORDS = 6
BENT = ((1, 0, 0, 1),)
LAST_CAR = ((0, 0, 1, 1),)


def unit_column(size, at):
    """The list of size + 1 weights that are 1 in one row, and 0 elsewhere."""
    return [ONE if row == at else () for row in range(size + 1)]


def gap_columns(size):
    """The list of the columns of the grid of E; the row below the last one is cut off."""
    return [unit_column(size, at + 1) for at in range(size + 1)]


def car_columns(size):
    """The list of the columns of the grid of D, each told by the one ahead of it."""
    columns = [[LAST_CAR if row == 0 else () for row in range(size + 1)]]
    for at in range(1, size + 1):
        ahead = columns[-1]
        one = unit_column(size, at)
        bent = [()] + [product_of_weights(BENT, item) for item in ahead]
        columns.append([sum_of_terms([ahead[row], bent[row], one[row]]) for row in range(size + 1)])
    return columns


def columns_of(letter, size):
    """The list of the columns of the grid of a letter."""
    return car_columns(size) if letter == "D" else gap_columns(size)


def rows_from(columns):
    """The tuple of the rows of a grid, tuples, from the list of its columns."""
    return tuple([tuple([column[row] for column in columns]) for row in range(len(columns))])


def letter_grid(letter, size):
    """The grid of a letter."""
    if letter not in ("D", "E"):
        raise InvalidWord("one of the letters D and E is asked for")
    check_number(size, 0, MOST_SIZE)
    return rows_from(columns_of(letter, size))


def column_led(columns, column):
    """The column that comes of one by a grid, told by its columns, set ahead of it."""
    totals = []
    for row in range(len(columns)):
        parts = [product_of_weights(columns[at][row], item) for at, item in enumerate(column) if item != ()]
        totals.append(sum_of_terms(parts))
    return totals


def columns_led(word, columns):
    """The columns that come of some by the grids of all letters of a word set ahead of them."""
    size = len(columns[0]) - 1
    grids = {"D": car_columns(size), "E": gap_columns(size)}
    found = columns
    for letter in word[::-1]:
        found = [column_led(grids[letter], column) for column in found]
    return found


def word_grid(word, size):
    """The grid of a word of at most 5 letters."""
    check_word(word)
    check_number(size, len(word), MOST_SIZE)
    check_most(len(word), MOST_LETTERS_OF_GRIDS)
    check_most(size, MOST_SIZE_OF_WORDS)
    return rows_from(columns_led(word, [unit_column(size, at) for at in range(size + 1)]))


def grid_weight(word):
    """The sum, over all rows i of the column 0 of the grid of a word, of a ** i times the item."""
    check_word(word)
    column = columns_led(word, [unit_column(len(word), 0)])[0]
    parts = [product_of_weights(((0, row, 0, 1),), item) for row, item in enumerate(column)]
    return sum_of_terms(parts)
