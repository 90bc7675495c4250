"""Lines: heights under rows, for roads without hops back."""

from math import comb

from hoproads.errors import InvalidLine, InvalidNumber
from hoproads.plain import check_most, check_number, is_from_to
from hoproads.roads import check_places, check_row

MOST_PLACES = 30
MOST_PLACES_OF_A_ROW = 10
MOST_PLACES_OF_ALL = 7
MOST_PLACES_OF_A_COUNT = 200
MOST_TOUCHING = 30


def is_line(value):
    """Whether any value is a line of 0 to 30 places."""
    if not isinstance(value, tuple) or len(value) > MOST_PLACES:
        return False
    ahead = 0
    for height in value:
        if not is_from_to(height, 0, ahead + 1):
            return False
        ahead = height
    return True


def check_line(line):
    """Raise InvalidLine for what is no line of 0 to 30 places."""
    if not is_line(line):
        raise InvalidLine("a line of 0 to 30 places is asked for")


def heights_ahead(line):
    """The tuple of the heights just ahead of each place of a line, 0 ahead of the first one."""
    return ((0,) + line)[:-1]


def last_height(line):
    """The last height of a line, 0 without places."""
    return line[-1] if line else 0


def row_of(line):
    """The row of a line of any number of places."""
    return tuple([1 if height > ahead else 0 for ahead, height in zip(heights_ahead(line), line)])


def line_row(line):
    """The row of a line."""
    check_line(line)
    return row_of(line)


def line_weight(line):
    """The weight of a line, of one term."""
    check_line(line)
    return ((0, line.count(0), last_height(line), 1),)


def heights_behind(item, ahead):
    """The ascending list of the heights that can stand at an item of a row, just behind a height."""
    return [ahead + 1] if item == 1 else list(range(ahead + 1))


def lines_of(row):
    """The ascending list of all lines under a row."""
    check_row(row)
    check_most(len(row), MOST_PLACES_OF_A_ROW)
    lines = [()]
    for item in row:
        lines = [line + (height,) for line in lines for height in heights_behind(item, last_height(line))]
    return lines


def counts_behind(counts, item):
    """The dict from the pairs (zeros, last height) to how many lines have these, by that without the last item."""
    longer = {}
    for (zeros, last), many in counts.items():
        for height in heights_behind(item, last):
            key = (zeros + int(height == 0), height)
            longer[key] = longer.get(key, 0) + many
    return longer


def count_by_ends(row):
    """The dict from the pairs (zeros, last height) to how many lines under a row have these."""
    counts = {(0, 0): 1}
    for item in row:
        counts = counts_behind(counts, item)
    return counts


def count_lines(row):
    """How many lines under a row there are."""
    check_row(row)
    return sum(list(count_by_ends(row).values()))


def count_touching(row, zeros, last):
    """How many lines under a row have so many zeros, and such a last height."""
    check_row(row)
    check_number(zeros, 0, MOST_TOUCHING)
    check_number(last, 0, MOST_TOUCHING)
    return count_by_ends(row).get((zeros, last), 0)


def all_lines(places):
    """The ascending list of all lines of so many places."""
    check_places(places)
    check_most(places, MOST_PLACES_OF_ALL)
    lines = [()]
    for _ in range(places):
        lines = [line + (height,) for line in lines for height in range(last_height(line) + 2)]
    return lines


def count_all_lines(places):
    """How many lines of so many places there are: as many as strings of a pair of brackets more."""
    check_places(places, MOST_PLACES_OF_A_COUNT)
    pairs = places + 1
    return comb(2 * pairs, pairs) // (pairs + 1)


def ways_on(places):
    """For 0, 1 and so on places more the list of how many ways on there are from each height."""
    ways = [[1] * (places + 1)]
    for left in range(1, places + 1):
        ways.append([sum(ways[-1][:height + 2]) for height in range(places + 1 - left)])
    return ways


def line_number(line):
    """The index of a line in the ascending list of all of as many places."""
    check_line(line)
    ways = ways_on(len(line))
    number = 0
    for at, height in enumerate(line):
        number = number + sum(ways[len(line) - 1 - at][:height])
    return number


def line_with(places, number):
    """The line of so many places with an index in the ascending list of all."""
    check_places(places, MOST_PLACES)
    ways = ways_on(places)
    if not is_from_to(number, 0, ways[places][0] - 1):
        raise InvalidNumber(f"an integer from 0 to {ways[places][0] - 1} is asked for")
    line = []
    left = number
    for more in range(places - 1, -1, -1):
        height = 0
        while left >= ways[more][height]:
            left = left - ways[more][height]
            height = height + 1
        line.append(height)
    return tuple(line)
