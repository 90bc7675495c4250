"""Level weights, fall weights, and the weights of trails added to moments.

Lists of level and fall weights have the weight of each height at its index;
a fall from the height 0 is never done, so its weight is set to 0.
"""

from hoproads.errors import InvalidHeight
from hoproads.plain import added, divided, is_from_to, less, powers_of, times, total_of
from hoproads.roads import check_places, check_rates
from hoproads.trails import check_steps, check_trail, trail_heights

MOST_HEIGHT = 24
MOST_BETWEEN = 12
MOST_PLACES = 24
NOUGHT = (0, 1)
ONE = (1, 1)


def check_height(height, least, most):
    """Raise InvalidHeight for what is no height within two bounds."""
    if not is_from_to(height, least, most):
        raise InvalidHeight(f"an integer from {least} to {most} is asked for")


def ends_at(rates):
    """The pair of a and b at rates."""
    return ((rates[0][1], rates[0][0]), (rates[1][1], rates[1][0]))


def power_at(base, power):
    """The power of a fraction, 1 for the power 0 of 0, too."""
    return (powers_of(base[0], power)[power], powers_of(base[1], power)[power])


def count_at(back, height):
    """The count of a height: the sum of the powers of back from 0 on, as many as the height."""
    return total_of([power_at(back, power) for power in range(height)])


def level_at(rates, height):
    """The level weight of a height from 0 on."""
    back = rates[2]
    one_end, other_end = ends_at(rates)
    outer = times(added(one_end, other_end), power_at(back, height))
    return added(outer, times((2, 1), count_at(back, height)))


def fall_at(rates, height):
    """The fall weight of a height from 1 on."""
    back = rates[2]
    one_end, other_end = ends_at(rates)
    both = times(one_end, other_end)
    ends = less(total_of([one_end, other_end, times(back, both)]), both)
    inner = added(count_at(back, height - 1), times(power_at(back, height - 1), ends))
    return times(count_at(back, height), inner)


def levels_up_to(rates, most):
    """The list of the level weights of the heights from 0 to the greatest one."""
    return [level_at(rates, height) for height in range(most + 1)]


def falls_up_to(rates, most):
    """The list of the fall weights of the heights from 0 to the greatest one."""
    return [NOUGHT] + [fall_at(rates, height) for height in range(1, most + 1)]


def led_on(levels, falls, weights):
    """The weights of all ways to each height, led a step on; ways above the greatest height are left out."""
    most = len(weights) - 1
    found = []
    for height in range(most + 1):
        lower = weights[height - 1] if height > 0 else NOUGHT
        level = times(weights[height], levels[height])
        higher = times(weights[height + 1], falls[height + 1]) if height < most else NOUGHT
        found.append(total_of([lower, level, higher]))
    return found


def moments_by(levels, falls, steps):
    """The list of the moments of 0, 1 and so on up to so many steps, by lists of level and fall weights."""
    # no trail is ever higher than half of its steps
    weights = [ONE] + [NOUGHT] * (steps // 2)
    moments = [ONE]
    for _ in range(steps):
        weights = led_on(levels, falls, weights)
        moments.append(weights[0])
    return moments


def moments_at(rates, steps):
    """The list of the moments of 0, 1 and so on up to so many steps at rates."""
    most = steps // 2
    return moments_by(levels_up_to(rates, most), falls_up_to(rates, most), steps)


def level_weight(rates, height):
    """The level weight of a height."""
    check_rates(rates)
    check_height(height, 0, MOST_HEIGHT)
    return level_at(rates, height)


def fall_weight(rates, height):
    """The fall weight of a height."""
    check_rates(rates)
    check_height(height, 1, MOST_HEIGHT)
    return fall_at(rates, height)


def trail_weight(rates, trail):
    """The weight of a trail."""
    check_rates(rates)
    check_trail(trail)
    weight = ONE
    for step, height in zip(trail, trail_heights(trail)):
        if step == 0:
            weight = times(weight, level_at(rates, height))
        if step == -1:
            weight = times(weight, fall_at(rates, height))
    return weight


def moment(rates, steps):
    """The moment of so many steps."""
    check_rates(rates)
    check_steps(steps)
    return moments_at(rates, steps)[steps]


def weight_between(rates, low, high, steps):
    """The sum of the weights of all ways of so many steps from the height low to the height high."""
    check_rates(rates)
    check_height(low, 0, MOST_BETWEEN)
    check_height(high, 0, MOST_BETWEEN)
    check_steps(steps, MOST_BETWEEN)
    most = low + steps
    if high > most:
        return NOUGHT
    levels = levels_up_to(rates, most)
    falls = falls_up_to(rates, most)
    weights = [ONE if height == low else NOUGHT for height in range(most + 1)]
    for _ in range(steps):
        weights = led_on(levels, falls, weights)
    return weights[high]


def far_flow(rates, places):
    """The flow on a road of so many places."""
    check_rates(rates)
    check_places(places, MOST_PLACES)
    moments = moments_at(rates, places)
    return divided(moments[places - 1], moments[places])
