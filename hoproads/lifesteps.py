"""States of a road, with marks, a place and rates, the steps that lead them on, and scripts of steps."""

from hoproads.errors import InvalidScript, InvalidState, InvalidStep, Stuck, Unlike
from hoproads.plain import is_from_to, times
from hoproads.roads import MOST_PLACES, are_rates, can_hop, hop_back, hopped, is_row, rate_of
from hoproads.stairs import mirrored_row
from hoproads.steady import share_of

MOST_STEPS = 30
MOST_STEPS_TO_TRY = 60
MOST_MARK = 99
# what stands behind the word of a step
FORMS = {
    "in": ("mark",),
    "out": ("mark",),
    "on": ("place",),
    "back": ("place",),
    "put": ("place", "thing", "mark"),
    "mirror": (),
    "longer": ("thing", "mark"),
    "shorter": (),
    "watch": ("place",),
    "rates": ("rates",),
}
GREATEST = {"mark": MOST_MARK, "place": MOST_PLACES - 1, "thing": 1}
HOPS = ("in", "out", "on", "back")


def is_state(value):
    """Whether any value is a state."""
    if not isinstance(value, tuple) or len(value) != 4:
        return False
    row, marks, place, rates = value
    if not is_row(row) or not isinstance(marks, tuple) or len(marks) != len(row):
        return False
    if not all([is_from_to(mark, 0, MOST_MARK) for mark in marks]):
        return False
    return is_from_to(place, 0, len(row) - 1) and are_rates(rates)


def check_state(state):
    """Raise InvalidState for what is no state."""
    if not is_state(state):
        raise InvalidState("a state is asked for: a row, its marks, a place, and rates")


def is_step_item(kind, value):
    """Whether any value is what a step has, of some kind."""
    if kind == "rates":
        return are_rates(value)
    return is_from_to(value, 0, GREATEST[kind])


def is_step(value):
    """Whether any value is a step."""
    if not isinstance(value, tuple) or value == () or not isinstance(value[0], str) or value[0] not in FORMS:
        return False
    kinds = FORMS[value[0]]
    if len(value) != 1 + len(kinds):
        return False
    return all([is_step_item(kind, item) for kind, item in zip(kinds, value[1:])])


def check_step(step):
    """Raise InvalidStep for what is no step."""
    if not is_step(step):
        raise InvalidStep("a step is asked for")


def are_steps(value, most):
    """Whether any value is a tuple of at most so many steps."""
    return isinstance(value, tuple) and len(value) <= most and all([is_step(step) for step in value])


def is_script(value):
    """Whether any value is a script."""
    return are_steps(value, MOST_STEPS)


def check_script(script):
    """Raise InvalidScript for what is no script."""
    if not is_script(script):
        raise InvalidScript("a tuple of at most 30 steps is asked for")


def seen_in(state):
    """The pair of the thing in the place of a state, and of its mark."""
    row, marks, place, _ = state
    return (row[place], marks[place])


def seen_thing(state):
    """The pair of the thing in the place of a state, and of its mark."""
    check_state(state)
    return seen_in(state)


def hop_of(state, step):
    """The hop of the row of a state that a step with the word of a hop does."""
    word = step[0]
    if word == "in":
        return ("in", 0)
    return ("out", len(state[0]) - 1) if word == "out" else step


def can_step(state, step):
    """Whether a step can be done in a state."""
    row, _, place, _ = state
    word = step[0]
    if word in HOPS:
        return can_hop(row, hop_of(state, step))
    if word in ("put", "watch"):
        return step[1] < len(row)
    if word == "longer":
        return len(row) < MOST_PLACES
    return word != "shorter" or place < len(row) - 1


def replaced(items, place, item):
    """Items with another one in a place."""
    return items[:place] + (item,) + items[place + 1:]


def led_by_hop(state, step):
    """The state behind a step that is a hop."""
    row, marks, place, rates = state
    word, at = hop_of(state, step)
    if word in ("in", "out"):
        led = replaced(marks, at, step[1])
    else:
        other = at + 1 if word == "on" else at - 1
        led = replaced(replaced(marks, at, marks[other]), other, marks[at])
    return (hopped(row, (word, at)), led, place, rates)


def led_by_put(state, step):
    """The state behind a step that puts a thing."""
    row, marks, place, rates = state
    _, at, thing, mark = step
    return (replaced(row, at, thing), replaced(marks, at, mark), place, rates)


def led_by_mirror(state, _):
    """The state mirrored."""
    row, marks, place, rates = state
    entering, leaving, back = rates
    return (mirrored_row(row), marks[::-1], len(row) - 1 - place, (leaving, entering, back))


def led_longer(state, step):
    """The state with a place more."""
    row, marks, place, rates = state
    return (row + step[1:2], marks + step[2:], place, rates)


def led_shorter(state, _):
    """The state without its last place."""
    row, marks, place, rates = state
    return (row[:-1], marks[:-1], place, rates)


def led_by_watch(state, step):
    """The state with another place."""
    return (state[0], state[1], step[1], state[3])


def led_by_rates(state, step):
    """The state with other rates."""
    return (state[0], state[1], state[2], step[1])


LEADS = {
    "in": led_by_hop,
    "out": led_by_hop,
    "on": led_by_hop,
    "back": led_by_hop,
    "put": led_by_put,
    "mirror": led_by_mirror,
    "longer": led_longer,
    "shorter": led_shorter,
    "watch": led_by_watch,
    "rates": led_by_rates,
}


def led_by(state, step):
    """The state behind a step, Stuck if it can't be done."""
    if not can_step(state, step):
        raise Stuck("the step can't be done in the state")
    lead = LEADS[step[0]]
    return lead(state, step)


def stepped(state, step):
    """The state behind a step."""
    check_state(state)
    check_step(step)
    return led_by(state, step)


def states_along(state, script):
    """The list of a state, and of those behind each step of a script."""
    states = [state]
    for step in script:
        states.append(led_by(states[-1], step))
    return states


def all_stepped(state, script):
    """The list of a state, and of those behind each step of a script."""
    check_state(state)
    check_script(script)
    return states_along(state, script)


def back_of(state, step):
    """The step that leads back to a state from behind a step that can be done in it."""
    row, marks, place, rates = state
    word = step[0]
    if word in ("on", "back"):
        return hop_back(row, step)
    if word in ("in", "out", "put"):
        at = step[1] if word == "put" else hop_of(state, step)[1]
        return ("put", at, row[at], marks[at])
    if word == "longer":
        return ("shorter",)
    if word == "shorter":
        return ("longer", row[-1], marks[-1])
    if word == "watch":
        return ("watch", place)
    return ("rates", rates) if word == "rates" else step


def step_back(state, step):
    """The step that leads back to a state from behind a step."""
    stepped(state, step)
    return back_of(state, step)


def script_to(one, other):
    """Any script that leads from a state to another one."""
    check_state(one)
    check_state(other)
    if len(one[0]) != len(other[0]):
        raise Unlike("states of as many places are asked for")
    row, marks, place, rates = other
    puts = [("put", at, row[at], marks[at]) for at in range(len(row))
            if (one[0][at], one[1][at]) != (row[at], marks[at])]
    watches = [("watch", place)] if one[2] != place else []
    changes = [("rates", rates)] if one[3] != rates else []
    return tuple(puts + watches + changes)


def script_home(state, script):
    """The script of the steps that lead back from behind a script to a state."""
    states = all_stepped(state, script)
    steps = [back_of(some, step) for some, step in zip(states, script)]
    return tuple(steps[::-1])


def steps_that_can(state, steps):
    """The ascending list of the indices of all steps that can be done in a state."""
    check_state(state)
    if not are_steps(steps, MOST_STEPS_TO_TRY):
        raise InvalidStep("a tuple of at most 60 steps is asked for")
    return [at for at, step in enumerate(steps) if can_step(state, step)]


def way_rate(state, script):
    """The product of the rates of all hops of a script, as they are when they are done."""
    rate = (1, 1)
    for some, step in zip(all_stepped(state, script), script):
        if step[0] in HOPS:
            rate = times(rate, rate_of(some[3], step))
    return rate


def state_share(state):
    """The steady share of the row of a state at its rates, of at most 10 places, as those of all rows."""
    check_state(state)
    return share_of(state[3], state[0])
