"""Trails that go up, level and down, and never below where they begin and end."""

from hoproads.errors import InvalidNumber, InvalidSteps, InvalidTrail
from hoproads.plain import check_most, is_from_to

MOST_STEPS = 24
MOST_STEPS_OF_A_LIST = 9


def heights_of(steps):
    """The list of the sums of the first steps of a tuple, of none, of one and so on up to all."""
    heights = [0]
    for step in steps:
        heights.append(heights[-1] + step)
    return heights


def is_trail(value):
    """Whether any value is a trail of 0 to 24 steps."""
    if not isinstance(value, tuple) or len(value) > MOST_STEPS:
        return False
    if not all([is_from_to(step, -1, 1) for step in value]):
        return False
    heights = heights_of(value)
    return heights[-1] == 0 and all([height >= 0 for height in heights])


def check_trail(trail):
    """Raise InvalidTrail for what is no trail of 0 to 24 steps."""
    if not is_trail(trail):
        raise InvalidTrail("a trail of 0 to 24 steps is asked for")


def check_steps(steps, most=MOST_STEPS):
    """Raise InvalidSteps for what is no number of steps from 0 to the greatest one."""
    if not is_from_to(steps, 0, most):
        raise InvalidSteps(f"an integer from 0 to {most} is asked for")


def trail_heights(trail):
    """The tuple of the heights of all steps of a trail."""
    check_trail(trail)
    return tuple(heights_of(trail)[:-1])


def ways_home(steps):
    """For 0, 1 and so on steps the list of how many ways of so many lead from each height to the height 0."""
    ways = [[1] + [0] * steps]
    for _ in range(steps):
        around = [0] + ways[-1] + [0]
        ways.append([sum(around[height:height + 3]) for height in range(steps + 1)])
    return ways


def ways_ahead(ways, left, height):
    """The list of how many ways from a height, of so many steps, begin with a step down, and with one level."""
    lower = ways[left - 1][height - 1] if height > 0 else 0
    return [lower, ways[left - 1][height]]


def trails_of(steps):
    """The ascending list of all trails of so many steps."""
    check_steps(steps)
    check_most(steps, MOST_STEPS_OF_A_LIST)
    trails = [()]
    for left in range(steps - 1, -1, -1):
        longer = [trail + (step,) for trail in trails for step in (-1, 0, 1)]
        trails = [trail for trail in longer if 0 <= sum(trail) <= left]
    return trails


def count_trails(steps):
    """How many trails of so many steps there are."""
    check_steps(steps)
    return ways_home(steps)[steps][0]


def trail_number(trail):
    """The index of a trail among all of as many steps."""
    check_trail(trail)
    ways = ways_home(len(trail))
    heights = heights_of(trail)
    number = 0
    for at, step in enumerate(trail):
        many = ways_ahead(ways, len(trail) - at, heights[at])
        number = number + sum(many[:step + 1])
    return number


def trail_with(steps, number):
    """The trail of so many steps with an index among all."""
    check_steps(steps)
    ways = ways_home(steps)
    if not is_from_to(number, 0, ways[steps][0] - 1):
        raise InvalidNumber(f"an integer from 0 to {ways[steps][0] - 1} is asked for")
    trail = []
    height = 0
    ahead = number
    for left in range(steps, 0, -1):
        many = ways_ahead(ways, left, height)
        step = -1
        while step < 1 and ahead >= many[step + 1]:
            ahead = ahead - many[step + 1]
            step = step + 1
        trail.append(step)
        height = height + step
    return tuple(trail)
