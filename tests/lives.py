"""States and steps straight from their definitions, for the tests to compare with."""

import random

from tests.support import A, ALL_RATES, B, BIG, R, S, STRAYS, WRONG_RATES, WRONG_ROWS

V = (B, (5, 7, 9), 1, S)
ONE = ((1,), (0,), 0, R)
TWELVE = ((1, 0, 0, 1) * 3, tuple(range(88, 100)), 11, S)
EMPTY = ((0,) * 12, (0,) * 12, 0, ALL_RATES[2])
ELEVEN = ((1,) * 11, (99,) * 11, 5, R)
STATES = [V, ONE, TWELVE, EMPTY, ELEVEN, ((0,), (99,), 0, S), (A, (1, 2), 0, R), (A, (1, 1), 1, S), ((1,) * 12, (7,) * 12, 3, R)]

# places beyond those of most states, and steps of all kinds at the bounds
STEPS = [("in", 0), ("in", 4), ("in", 99), ("out", 0), ("out", 99), ("mirror",), ("shorter",), ("longer", 0, 0), ("longer", 1, 99),
         ("rates", R), ("rates", S), ("rates", ALL_RATES[3])]
STEPS += [(word, place) for word in ("on", "back", "watch") for place in (0, 1, 2, 3, 8, 9, 10, 11)]
STEPS += [("put", place, thing, mark) for place in (0, 1, 2, 11) for thing in (0, 1) for mark in (0, 8, 99)]

NO_STATES = STRAYS + [(row,) + V[1:] for row in WRONG_ROWS] + [V[:3] + (rates,) for rates in WRONG_RATES] + [
    (), V[:3], V + (0,), list(V), (B, [5, 7, 9], 1, S), (B, (5, 7), 1, S), (B, (5, 7, 9, 9), 1, S), (B, (5, 7, 100), 1, S),
    (B, (-1, 7, 9), 1, S), (B, (5, 7, True), 1, S), (B, (5, 7, "9"), 1, S), (B, (5, 7, None), 1, S), (B, "579", 1, S),
    (B, (5, 7, 9), 3, S), (B, (5, 7, 9), -1, S), (B, (5, 7, 9), True, S), (B, (5, 7, 9), None, S), (B, (5, 7, 9), "1", S),
    (B, (5, 7, 9), BIG, S), (B, (5, 7, BIG), 1, S), (B, None, 1, S), ((0,) * 13, (0,) * 13, 0, S), (B, (5, 7, 9), (1,), S),
    ((), (), 0, S), (S, 1, (5, 7, 9), B),
]
NO_STEPS = STRAYS + [
    (), ("",), ("on",), ("on", 12), ("on", -1), ("on", True), ("on", None), ("on", "0"), ("on", 0, 0), ["on", 0], ("On", 0),
    ("back",), ("back", 12), ("back", False), ("back", (0,)), ("in",), ("in", 100), ("in", -1), ("in", True), ("in", 0, 0),
    ("out",), ("out", 100), ("out", BIG), ("out", -BIG), ["in", 0], ("put", 0, 0), ("put", 12, 0, 0), ("put", 0, 2, 0),
    ("put", 0, 0, 100), ("put", True, 0, 0), ("put", 0, True, 0), ("put", 0, 0, False), ("put", -1, 0, 0), ("put", 0, -1, 0),
    ("put", 0, 0, -1), ("put", 0, 0, 0, 0), ("mirror", 0), ("mirror", ()), ["mirror"], "mirror", ("mirrors",), ("shorter", 0),
    ("longer",), ("longer", 0), ("longer", 2, 0), ("longer", 0, 100), ("longer", True, 0), ("longer", 0, 0, 0), ("watch",),
    ("watch", 12), ("watch", -1), ("watch", True), ("watch", None), ("rates",), ("rates", R, S), ("rates",) + R, (0, 0), (None,),
    (("on", 0),), ([], 0), ("rates", None), ("put", [0], 0, 0), ("watch", BIG), ("nothing",),
] + [("rates", rates) for rates in WRONG_RATES]
NO_SCRIPTS = [value for value in STRAYS if value != ()] + [(step,) for step in NO_STEPS] + [
    [], [("on", 1)], ("on", 1), (("mirror",),) * 31, (("mirror",),) * 1000, (("on", 1), None), (("on", 1), ("on", 12)), "on 1",
]


def stepped_told(state, step):
    """The state behind a step by [46], or None if it can't be done."""
    row, marks, place = list(state[0]), list(state[1]), state[2]
    entering, leaving, back = state[3]
    last = len(row) - 1
    word = step[0]
    if word in ("on", "back", "put", "watch") and step[1] > last:
        return None
    if word == "in":
        if row[0] == 1:
            return None
        row[0], marks[0] = 1, step[1]
    elif word == "out":
        if row[last] == 0:
            return None
        row[last], marks[last] = 0, step[1]
    elif word in ("on", "back"):
        at = step[1]
        to = at + 1 if word == "on" else at - 1
        if not 0 <= to <= last or row[at] == 0 or row[to] == 1:
            return None
        row[at], row[to] = 0, 1
        marks[at], marks[to] = marks[to], marks[at]
    elif word == "put":
        row[step[1]], marks[step[1]] = step[2], step[3]
    elif word == "mirror":
        row = [1 - item for item in reversed(row)]
        marks.reverse()
        place = last - place
        entering, leaving = leaving, entering
    elif word == "longer":
        if len(row) == 12:
            return None
        row.append(step[1])
        marks.append(step[2])
    elif word == "shorter":
        if last == 0 or place == last:
            return None
        row.pop()
        marks.pop()
    elif word == "watch":
        place = step[1]
    else:
        entering, leaving, back = step[1]
    return (tuple(row), tuple(marks), place, (entering, leaving, back))


def some_step(chance, places):
    """A step of some kind, mostly one that can be done."""
    word = chance.choice(["in", "out", "on", "on", "back", "back", "put", "mirror", "longer", "shorter", "watch", "rates"])
    place, thing, mark = chance.randrange(places), chance.randint(0, 1), chance.randint(0, 99)
    if word in ("in", "out"):
        return (word, mark)
    if word in ("on", "back", "watch"):
        return (word, place)
    if word == "put":
        return (word, place, thing, mark)
    if word == "longer":
        return (word, thing, mark)
    return (word, chance.choice(ALL_RATES)) if word == "rates" else (word,)


def some_lives(many, steps):
    """The list of pairs of a state and of a script, each step of which can be done."""
    chance = random.Random(many)
    found = []
    for turn in range(many):
        state = STATES[turn % len(STATES)]
        script, now = [], state
        while len(script) < steps:
            step = some_step(chance, len(now[0]))
            behind = stepped_told(now, step)
            if behind is not None:
                script.append(step)
                now = behind
        found.append((state, tuple(script)))
    return found
