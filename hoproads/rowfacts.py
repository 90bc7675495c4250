"""Facts of roads, and the rows that keep them."""

from hoproads.errors import InvalidFacts
from hoproads.plain import check_most, is_from_to
from hoproads.roads import all_rows, check_places, check_row

MOST_FACTS = 40
MOST_PLACES_OF_A_LIST = 10


def is_fact(places, value):
    """Whether any value is a fact of a road of so many places."""
    if not isinstance(value, tuple) or len(value) != 3:
        return False
    word, one, other = value
    if word == "at":
        return is_from_to(one, 0, places - 1) and is_from_to(other, 0, 1)
    if word in ("cars", "fronts"):
        return is_from_to(other, 0, places) and is_from_to(one, 0, other)
    if word == "alike":
        return is_from_to(one, 0, places - 1) and is_from_to(other, 0, places - 1) and one != other
    return False


def are_facts(places, value):
    """Whether any value is facts of a road of so many places."""
    check_places(places)
    if not isinstance(value, tuple) or len(value) > MOST_FACTS:
        return False
    return all([is_fact(places, fact) for fact in value])


def check_facts(places, facts):
    """Raise InvalidPlaces for what is no number of places, and InvalidFacts for what is no facts of so many."""
    if not are_facts(places, facts):
        raise InvalidFacts("a tuple of at most 40 facts of the road is asked for")


def count_fronts(row):
    """How many cars of a row have a free place next to them."""
    return sum([int(row[place] > row[place + 1]) for place in range(len(row) - 1)])


def is_kept(row, fact):
    """Whether a row keeps a fact."""
    word, one, other = fact
    if word == "at":
        return row[one] == other
    if word == "alike":
        return row[one] == row[other]
    return one <= (sum(row) if word == "cars" else count_fronts(row)) <= other


def rows_that_keep(places, facts):
    """The ascending list of all rows of so many places that keep facts."""
    rows = all_rows(places)
    for fact in facts:
        rows = [row for row in rows if is_kept(row, fact)]
    return rows


def keeps_facts(row, facts):
    """Whether a row keeps facts."""
    check_row(row)
    check_facts(len(row), facts)
    return all([is_kept(row, fact) for fact in facts])


def rows_keeping(places, facts):
    """The ascending list of all rows that keep facts."""
    check_facts(places, facts)
    check_most(places, MOST_PLACES_OF_A_LIST)
    return rows_that_keep(places, facts)


def count_keeping(places, facts):
    """How many rows keep facts."""
    check_facts(places, facts)
    return len(rows_that_keep(places, facts))


def items_in(cars, many):
    """The ascending tuple of the items that a place has in so many rows, with a car in some of them."""
    if cars in (0, many):
        return (int(cars > 0),)
    return (0, 1)


def places_left(places, facts):
    """The tuple, for each place, of the items that it has in some row that keeps facts, or None without such a row."""
    check_facts(places, facts)
    rows = rows_that_keep(places, facts)
    if rows == []:
        return None
    return tuple([items_in(sum([row[place] for row in rows]), len(rows)) for place in range(places)])
