"""Look papers: trees of looks at places that tell a row, of as few looks as can be."""

from hoproads.errors import InvalidPaper
from hoproads.factshares import check_few, shares_keeping
from hoproads.plain import is_from_to, over_one_below, reduced
from hoproads.roads import check_rates, is_row
from hoproads.rowfacts import check_facts, rows_that_keep

# rows stand in tuples here, as keys of what is known of them


def parted(rows, place):
    """The pair of the rows in which a place is free, and of those in which a car stands there."""
    return (tuple([row for row in rows if row[place] == 0]), tuple([row for row in rows if row[place] == 1]))


def partings(rows):
    """The list of the triples (place, free, car) of all places that part two rows or more."""
    found = [(place,) + parted(rows, place) for place in range(len(rows[0]))]
    return [(place, free, car) for place, free, car in found if free != () and car != ()]


def fewest_for(rows, known):
    """The least length of a look paper for some rows, put down for them in a dict."""
    if len(rows) < 2:
        return 0
    if rows not in known:
        lengths = [max(int(fewest_for(free, known)), fewest_for(car, known)) for place, free, car in partings(rows)]
        known[rows] = 1 + min([int(length) for length in lengths])
    return known[rows]


def fewest_looks(places, facts):
    """The least length of a look paper for facts."""
    check_facts(places, facts)
    check_few(places)
    return fewest_for(tuple(rows_that_keep(places, facts)), {})


def parts_keeping(rates, places, facts):
    """The dict from all rows that keep facts to integers that are to each other as their steady shares."""
    shares = shares_keeping(rates, places, facts)
    tops, _ = over_one_below(list(shares.values()))
    return {row: top for row, top in zip(list(shares), tops)}


def looks_at(rows, parts):
    """What a look that is on the way to some rows adds to the sum of all looks, each times the part of its row."""
    return sum([parts[row] for row in rows])


def least_for(rows, parts, known):
    """The least sum of all looks of a look paper for some rows, put down with the place of its first look."""
    if len(rows) < 2:
        return 0
    if rows not in known:
        best = None
        for place, free, car in partings(rows):
            looks = least_for(free, parts, known) + least_for(car, parts, known)
            if best is None or looks < best[0]:
                best = (looks, place)
        known[rows] = (best[0] + looks_at(rows, parts), best[1])
    return known[rows][0]


def least_mean(rates, places, facts):
    """The least mean of a look paper for facts, or None if no row keeps them."""
    check_rates(rates)
    check_facts(places, facts)
    check_few(places)
    parts = parts_keeping(rates, places, facts)
    rows = tuple(list(parts))
    return None if rows == () else reduced(least_for(rows, parts, {}), looks_at(rows, parts))


def paper_by(rows, known):
    """The look paper for some rows, by the places of the first looks that are put down."""
    if rows == ():
        return ("none",)
    if len(rows) == 1:
        return ("row", rows[0])
    place = known[rows][1]
    free, car = parted(rows, place)
    return ("look", place, paper_by(free, known), paper_by(car, known))


def look_paper(rates, places, facts):
    """Any look paper for facts with the least mean."""
    check_rates(rates)
    check_facts(places, facts)
    check_few(places)
    parts = parts_keeping(rates, places, facts)
    rows = tuple(list(parts))
    known = {}
    least_for(rows, parts, known)
    return paper_by(rows, known)


def is_paper_for(rows, places, value):
    """Whether any value is a look paper for some rows."""
    if not isinstance(value, tuple):
        return False
    if rows == ():
        return value == ("none",)
    if len(rows) == 1:
        return len(value) == 2 and value[0] == "row" and is_row(value[1]) and value[1] == rows[0]
    if len(value) != 4 or value[0] != "look" or not is_from_to(value[1], 0, places - 1):
        return False
    free, car = parted(rows, value[1])
    return is_paper_for(free, places, value[2]) and is_paper_for(car, places, value[3])


def is_look_paper(places, facts, value):
    """Whether any value is a look paper for facts."""
    check_facts(places, facts)
    check_few(places)
    return is_paper_for(tuple(rows_that_keep(places, facts)), places, value)


def looks_in(rows, parts, paper):
    """The sum of the looks of a look paper on the ways to some rows, each times the part of its row."""
    if len(rows) < 2:
        return 0
    free, car = parted(rows, paper[1])
    return looks_at(rows, parts) + looks_in(free, parts, paper[2]) + looks_in(car, parts, paper[3])


def paper_mean(rates, places, facts, paper):
    """The mean of a look paper for facts, or None if no row keeps them."""
    check_rates(rates)
    check_facts(places, facts)
    check_few(places)
    parts = parts_keeping(rates, places, facts)
    rows = tuple(list(parts))
    if not is_paper_for(rows, places, paper):
        raise InvalidPaper("a look paper for the facts is asked for")
    return None if rows == () else reduced(looks_in(rows, parts, paper), looks_at(rows, parts))
