"""Lines opened and closed, slot rings, and lines that hop along with their rows."""

from hoproads.errors import InvalidHop, InvalidSlot
from hoproads.lines import MOST_PLACES, check_line, last_height, row_of
from hoproads.plain import ascending, check_most, is_from_to
from hoproads.roads import is_hop_form


def hops_under(line):
    """The ascending list of the hops of a line."""
    row = row_of(line)
    last = len(row) - 1
    enters = [("in", 0)] if row[:1] == (0,) else []
    ons = [("on", place) for place in range(last) if row[place] > row[place + 1]]
    leaves = [("out", last)] if row[-1:] == (1,) else []
    return enters + ons + leaves


def check_line_hop(line, hop):
    """Raise InvalidLine for what is no line, and InvalidHop for what is no hop of it."""
    check_line(line)
    if not is_hop_form(hop, MOST_PLACES) or hop not in hops_under(line):
        raise InvalidHop("a hop of the line is asked for")


def slot_of(hop):
    """The slot of a hop."""
    word, place = hop
    return 0 if word == "in" else place + 1


def hop_at(places, slot):
    """The hop, of a line that comes of one of so many places by opening it at a slot, with this slot."""
    if slot == 0:
        return ("in", 0)
    return ("out", places) if slot == places + 1 else ("on", slot - 1)


def opened(line, slot):
    """A line opened at a slot."""
    if slot == 0:
        return (0,) + line
    ahead = line[:slot - 1]
    return ahead + (last_height(ahead) + 1,) + line[slot - 1:]


def closed(line, hop):
    """The line that is left by a hop of a line."""
    place = hop[1]
    return line[:place] + line[place + 1:]


def ring_of(line):
    """The list of the slots of a line, as they follow in its slot ring."""
    row = row_of(line)
    gaps = [place + 1 for place, item in enumerate(row) if item == 0]
    cars = [place + 1 for place, item in enumerate(row) if item == 1]
    return [0] + gaps + [len(row) + 1] + cars[::-1]


def slot_behind(line, slot, steps):
    """The slot so many steps behind a slot in the slot ring of a line."""
    ring = ring_of(line)
    return ring[(ring.index(slot) + steps) % len(ring)]


def line_opened(line, slot):
    """A line of at most 29 places opened at a slot."""
    check_line(line)
    if not is_from_to(slot, 0, len(line) + 1):
        raise InvalidSlot(f"a slot from 0 to {len(line) + 1} is asked for")
    check_most(len(line), MOST_PLACES - 1)
    return opened(line, slot)


def line_closed(line, hop):
    """The pair of what is left of a line by a hop, and of the slot of the hop."""
    check_line_hop(line, hop)
    return (closed(line, hop), slot_of(hop))


def slot_ring(line):
    """The slot ring of a line."""
    check_line(line)
    return tuple(ring_of(line))


def line_hops(line):
    """The ascending list of the hops of a line."""
    check_line(line)
    return hops_under(line)


def line_hopped(line, hop):
    """The line that has hopped along by a hop."""
    check_line_hop(line, hop)
    left = closed(line, hop)
    return opened(left, slot_behind(left, slot_of(hop), 1))


def line_before(line, hop):
    """The pair of a line and of its hop that comes to a line at the slot of a hop of this one."""
    left = closed(line, hop)
    slot = slot_behind(left, slot_of(hop), -1)
    return (opened(left, slot), hop_at(len(left), slot))


def lines_before(line):
    """The ascending list of all pairs of a line and of a hop of it by which it comes to a line."""
    check_line(line)
    return ascending([line_before(line, hop) for hop in hops_under(line)])
