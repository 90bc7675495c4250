"""Orders melted, corner by corner, to stair tables, and back.

A corner is a place with a car just ahead of a free place. The names of the
places that are left, in order, tell the row that is left: each name is still
a car or a gap, as it was in the row at first.
"""

from hoproads.errors import InvalidPlace
from hoproads.orderfalls import row_by_falls
from hoproads.orders import check_order
from hoproads.plain import ascending, is_integer
from hoproads.stairs import check_table
from hoproads.tablewalks import table_by_walks


def corners_of(items):
    """The ascending list of the places of all cars just ahead of a free place."""
    return [place for place in range(len(items) - 1) if items[place] > items[place + 1]]


def first_corner(row, names):
    """The first corner among the places that are left, or None."""
    corners = corners_of([row[name] for name in names])
    return corners[0] if corners else None


def names_behind(names, place, word):
    """The names of the places that are left behind a corner, as this is done there."""
    if word == "exchange":
        return names[:place] + [names[place + 1], names[place]] + names[place + 2:]
    dropped = place if word == "car" else place + 1
    return names[:dropped] + names[dropped + 1:]


def with_exchanged(order, place):
    """The order with the things place and place + 1 exchanged."""
    exchanged = {place: place + 1, place + 1: place}
    return tuple([exchanged.get(thing, thing) for thing in order])


def without_thing(order, gone):
    """The order without a thing, all greater things being less by 1."""
    return tuple([thing - 1 if thing > gone else thing for thing in order if thing != gone])


def with_thing(order, come, at):
    """The order with a thing more ahead of an index, all things from it on being greater by 1."""
    raised = tuple([thing + 1 if thing >= come else thing for thing in order])
    return raised[:at] + (come,) + raised[at:]


def corner_taken(order, place):
    """The pair of what is done at a corner of an order, and of the order behind it."""
    ahead = order.index(place + 1) - order.index(place)
    if ahead not in (-1, 1):
        return ("exchange", with_exchanged(order, place))
    return ("car" if ahead == -1 else "gap", without_thing(order, place + 1))


def corner_given_back(order, place, word):
    """The order ahead of a corner, at which this was done."""
    if word == "exchange":
        return with_exchanged(order, place)
    at = order.index(place)
    return with_thing(order, place + 1, at if word == "car" else at + 1)


def melting_of(order):
    """The triple of the row by falls, of the stair table, and of the number of exchanges in melting."""
    row = row_by_falls(order)
    names = list(range(len(row)))
    left = order
    marks = []
    exchanges = 0
    place = first_corner(row, names)
    while place is not None:
        word, left = corner_taken(left, place)
        if word == "exchange":
            exchanges = exchanges + 1
        else:
            marks.append((names[place], names[place + 1], word))
        names = names_behind(names, place, word)
        place = first_corner(row, names)
    return (row, tuple(ascending(marks)), exchanges)


def melted_once(order, place):
    """The pair of what is done at a corner of an order, and of the order behind it."""
    corners = corners_of(row_by_falls(order))
    if not is_integer(place) or place not in corners:
        raise InvalidPlace("the place of a car just ahead of a free place is asked for")
    return corner_taken(order, place)


def melted(order):
    """The pair of the row by falls, and of the stair table to which an order is melted."""
    row, table, _ = melting_of(order)
    return (row, table)


def molten_order(row, names):
    """The only order whose row by falls is of these places, the free ones all ahead of the cars."""
    gaps = len([name for name in names if row[name] == 0])
    return tuple(list(range(gaps)) + list(range(len(names), gaps - 1, -1)))


def melted_back(row, table):
    """The order that is melted to a stair table."""
    check_table(row, table)
    words = {(car, gap): word for car, gap, word in table}
    names = list(range(len(row)))
    corners = []
    place = first_corner(row, names)
    while place is not None:
        # the table alone tells what was done at each corner; the order then comes by all of this led back
        word = words.get((names[place], names[place + 1]), "exchange")
        corners.append((place, word))
        names = names_behind(names, place, word)
        place = first_corner(row, names)
    order = molten_order(row, names)
    for at, done in corners[::-1]:
        order = corner_given_back(order, at, done)
    return order


def count_exchanges(order):
    """How many exchanges are done in melting an order."""
    return melting_of(order)[2]


def early_tops(order):
    """The ascending list of the early tops of an order."""
    check_order(order)
    greatest = order.index(len(order) - 1)
    return [at for at in range(greatest) if all([thing < order[at] for thing in order[:at]])]


def dips_of(order):
    """The ascending list of the dips of an order."""
    check_order(order)
    behind = order.index(len(order) - 1) + 1
    return [at for at in range(behind, len(order)) if all([thing > order[at] for thing in order[behind:at]])]


def melting_weight(order):
    """The melting weight of an order."""
    exchanges = count_exchanges(order)
    return ((exchanges, len(early_tops(order)), len(dips_of(order)), 1),)


def order_alike(order):
    """The order that is melted to the stair table whose order by walks an order is."""
    row, table = table_by_walks(order)
    return melted_back(row, table)
