"""What the tests share: rows and rates, wrong values, and a check of the errors of all arguments."""

import itertools

from hoproads import errors
from hoproads.lifebenches import Bench
from hoproads.lifevalues import Road

A, B, C = (1, 0), (0, 1, 0), (1, 0, 1, 0)
R, S = ((1, 1), (1, 1), (0, 1)), ((1, 2), (2, 3), (1, 3))
# rates at the bounds: the greatest and the least fractions, and those with tops and belows of 1000
WIDE = ((1000, 1), (1, 1000), (999, 1000))
NARROW = ((1, 1000), (1000, 999), (1000, 1))
ODD = ((7, 5), (3, 8), (2, 1))
FULL = ((3, 4), (5, 6), (1, 1))
ALL_RATES = (R, S, WIDE, NARROW, ODD, FULL)
# rates with a fall weight of 1 below 0, with one of 1 that is 0, and with one of 2 that is 0
BELOW = ((1, 3), (2, 5), (0, 1))
NO_FALL = ((1, 2), (1, 2), (0, 1))
NO_SECOND_FALL = ((1, 6), (1, 4), (1, 2))
FALL_RATES = ALL_RATES + (BELOW, NO_FALL, NO_SECOND_FALL)

BIG = 10 ** 120 - 1


def nested(depth):
    """A tuple nested so deep."""
    value = ()
    for _ in range(depth):
        value = (value,)
    return value


# values of all kinds that "any value" may be, wrong for every argument that must be a tuple, or a string
STRAYS = [
    None, True, False, 0, 1, 2, -1, 12, 13, BIG, -BIG, "", " ", "a", "1", "de", "on", "x" * 1000, "\n",
    [], [0], [1, 0], [[]], [(1, 1), (1, 1), (0, 1)], ((),), ([],), (None,), (True,), (False,), (True, False),
    (0, 1, None), (0, "1"), (0, 1, 5), (-1, 0), (BIG,), ("on", 12), (0,) * 13, (1,) * 1000,
    nested(30), [nested(29)], errors.HopError("on"), errors.TooMany(6), (errors.InvalidRow("row"), 1),
    # objects of the classes of this package, which can be compared, measured and asked for items, but not be keys
    Road(A, S), Road((0,), R), Bench((A, (1, 2), 0, S)), (Road(A, S),), [Bench((B, (0, 0, 0), 2, R))],
    (Road(A, S), Road(A, S)), (Road(A, S), 0, 1), ("on", Road(A, S)), (Road(A, S), 0), (Bench((A, (1, 2), 0, S)),) * 4,
]

NO_INTEGERS = [value for value in STRAYS if not isinstance(value, int) or isinstance(value, bool)]

WRONG_ROWS = STRAYS + [(), (2,), (0, 1, 2), (1, -1), (True,), (1, False), [0], [1, 0], (0,) * 13, (1,) * 14, "10",
                       ((1,), (0,)), (1, 0, (0,)), (0, 1, BIG)]

WRONG_RATES = STRAYS + [
    (), ((1, 1), (1, 1)), ((1, 1),) * 4, ((0, 1), (1, 1), (0, 1)), ((1, 1), (0, 1), (0, 1)),
    ((1, 1), (1, 1), (-1, 1)), ((-1, 2), (1, 1), (0, 1)), ((1, 1), (1, -2), (0, 1)), ((1, 1), (1, 0), (0, 1)),
    ((2, 2), (1, 1), (0, 1)), ((1, 1), (2, 4), (0, 1)), ((1, 1), (1, 1), (0, 2)), ((1, 1), (1, 1), (3, 3)),
    ((1001, 1), (1, 1), (0, 1)), ((1, 1), (1, 1001), (0, 1)), ((1, 1), (1, 1), (1001, 1)),
    ((1, 1), (1, 1), (1, 1001)), ((1, 1), (1001, 1000), (0, 1)), ((BIG, 1), (1, 1), (0, 1)),
    ((1, 1), (1, BIG), (0, 1)), ((True, 1), (1, 1), (0, 1)), ((1, 1), (1, True), (0, 1)),
    ((1, 1), (1, 1), (False, 1)), [(1, 1), (1, 1), (0, 1)], ([1, 1], (1, 1), (0, 1)), ((1, 1), (1, 1), [0, 1]),
    ((1,), (1, 1), (0, 1)), ((1, 1, 1), (1, 1), (0, 1)), (1, 1, 0), ("11", (1, 1), (0, 1)), ((1, 1), (1, 1), None),
    ((1, 1), ("1", "1"), (0, 1)),
]

NO_FRACTIONS = STRAYS + [
    (), (1,), (1, 1, 1), [1, 1], (2, 2), (0, 2), (1, 0), (0, 0), (1, -1), (-2, -3), (3, 6), (BIG, BIG), (True, 1),
    (1, True), (False, 1), (1, None), ("1", 1), "11", ((1, 1),), (1, [1]),
]

WRONG_PLACES = NO_INTEGERS + [0, -1, 13, 14, BIG, -BIG]


def wrong_numbers(least, most):
    """Wrong values for an integer within two bounds, or from one on."""
    wrong = NO_INTEGERS + [least - 1, -BIG]
    if most is not None:
        wrong = wrong + [most + 1, BIG]
    return wrong


def all_rows(places):
    return list(itertools.product((0, 1), repeat=places))


def rows_up_to(places):
    return [row for many in range(1, places + 1) for row in all_rows(many)]


def check_error(test, error, function, arguments):
    """Check that a call raises just this error, and no subclass or base class of it."""
    with test.assertRaises(errors.HopError, msg=(function.__name__, arguments)) as caught:
        function(*arguments)
    test.assertIs(type(caught.exception), error, (function.__name__, arguments))


def check_too_many(test, limit, function, *arguments):
    """Check that a call raises TooMany with a limit."""
    check_error(test, errors.TooMany, function, arguments)
    try:
        function(*arguments)
    except errors.TooMany as caught:
        test.assertEqual(caught.limit, limit)


def check_arguments(test, function, *asked):
    """Check the errors of all arguments, from left to right.

    Each argument is asked as a triple (good, error, wrong values). A wrong
    value raises its error also if all arguments behind it are wrong. An
    argument that may be any value has None as its error.
    """
    good = [argument for argument, _, _ in asked]
    function(*good)
    for at, (_, error, wrong) in enumerate(asked):
        if error is None:
            continue
        behind = asked[at + 1:]
        for turn, value in enumerate(wrong):
            check_error(test, error, function, good[:at] + [value] + good[at + 1:])
            # all wrong values of those behind have their turn
            others = [some[2][turn % len(some[2])] for some in behind]
            check_error(test, error, function, good[:at] + [value] + others)
        for turn in range(max([len(some[2]) for some in behind], default=0)):
            others = [some[2][turn % len(some[2])] for some in behind]
            check_error(test, error, function, good[:at] + [wrong[turn % len(wrong)]] + others)
