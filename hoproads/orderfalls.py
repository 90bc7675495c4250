"""The falls of orders, and their patterns."""

from hoproads.orders import check_order


def row_by_falls(order):
    """The row by falls of an order."""
    check_order(order)
    fallen = [order[at] for at in range(1, len(order)) if order[at - 1] > order[at]]
    return tuple([1 if thing in fallen else 0 for thing in range(len(order) - 1)])


def patterns_of(order):
    """The ascending list of the patterns of an order."""
    check_order(order)
    things = len(order)
    pairs = [(one, other) for one in range(things) for other in range(one + 2, things)]
    return [(one, other) for one, other in pairs if order[one + 1] < order[other] < order[one]]


def late_lows(order):
    """The ascending list of the late lows of an order."""
    check_order(order)
    return [at for at in range(len(order) - 1) if all([thing > order[at] for thing in order[at + 1:]])]


def late_tops(order):
    """The ascending list of the late tops of an order."""
    check_order(order)
    return [at for at in range(len(order) - 1) if all([thing < order[at] for thing in order[at + 1:]])]


def pattern_weight(order):
    """The pattern weight of an order."""
    check_order(order)
    return ((len(patterns_of(order)), len(late_lows(order)), len(late_tops(order)), 1),)
