"""Histories: trails with labels."""

from math import factorial

from hoproads.errors import InvalidHistory
from hoproads.plain import check_most, is_from_to, terms_from
from hoproads.trails import check_steps, is_trail, trail_heights, trails_of
from hoproads.weights import terms_of_all_rows

MOST_STEPS = 12
MOST_STEPS_OF_A_LIST = 5
MOST_STEPS_OF_A_COUNT = 60
MOST_STEPS_OF_A_SUM = 8


def is_label(step, height, value):
    """Whether any value is an item of the labels for a step at a height."""
    if not isinstance(value, tuple) or len(value) != (0 if step == 1 else 2):
        return False
    if step == 1:
        return True
    most = 1 if step == 0 else height - 1
    return is_from_to(value[0], 0, most) and is_from_to(value[1], 0, height)


def is_history(value):
    """Whether any value is a history of 0 to 12 steps."""
    if not isinstance(value, tuple) or len(value) != 2:
        return False
    trail, labels = value
    if not is_trail(trail) or len(trail) > MOST_STEPS:
        return False
    if not isinstance(labels, tuple) or len(labels) != len(trail):
        return False
    return all([is_label(step, height, label) for step, height, label in zip(trail, trail_heights(trail), labels)])


def labels_at(step, height):
    """The ascending list of all items of the labels for a step at a height."""
    if step == 1:
        return [()]
    firsts = 2 if step == 0 else height
    return [(first, second) for first in range(firsts) for second in range(height + 1)]


def labels_of(trail):
    """The ascending list of all labels of a trail."""
    found = [()]
    for step, height in zip(trail, trail_heights(trail)):
        choices = labels_at(step, height)
        found = [labels + (choice,) for labels in found for choice in choices]
    return found


def histories_of(steps):
    """The ascending list of all histories of so many steps."""
    check_steps(steps, MOST_STEPS)
    check_most(steps, MOST_STEPS_OF_A_LIST)
    return [(trail, labels) for trail in trails_of(steps) for labels in labels_of(trail)]


def count_histories(steps):
    """How many histories of so many steps there are."""
    check_steps(steps, MOST_STEPS_OF_A_COUNT)
    return factorial(steps + 1)


def power_of_label(step, label):
    """The power of q in the weight of a step with its label."""
    if step == 0:
        return label[1]
    return sum(label)


def has_end(step, height, label):
    """Whether a step with its label has the factor a."""
    if step == 1 or label[1] != height:
        return False
    return step == -1 or label[0] == 0


def history_weight(history):
    """The weight of a history, of one term."""
    if not is_history(history):
        raise InvalidHistory("a history of 0 to 12 steps is asked for")
    trail, labels = history
    power = sum([power_of_label(step, label) for step, label in zip(trail, labels)])
    heights = trail_heights(trail)
    ends = sum([int(has_end(step, height, label)) for step, height, label in zip(trail, heights, labels)])
    return ((power, ends, 0, 1),)


def histories_weight(steps):
    """The sum of the weights of all histories of so many steps: the whole weight with 1 for b."""
    check_steps(steps, MOST_STEPS_OF_A_SUM)
    totals = {}
    for (gaps, _, bent), many in terms_of_all_rows(steps).items():
        key = (bent, gaps, 0)
        totals[key] = totals.get(key, 0) + many
    return terms_from(totals)
