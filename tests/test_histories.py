"""Histories: [25], [68], and the guarantee on them in [3]."""

import itertools
import math
import unittest

from hoproads.errors import InvalidHistory, InvalidSteps
from hoproads.histories import count_histories, histories_of, histories_weight, history_weight, is_history
from hoproads.weights import whole_weight
from tests import oracles
from tests.support import BIG, NO_INTEGERS, STRAYS, check_arguments, check_error, check_too_many
from tests.test_trails import NO_TRAILS

UP_AND_DOWN = (1,) * 6 + (-1,) * 6
LONG_HISTORIES = [
    (UP_AND_DOWN, ((),) * 6 + tuple((height - 1, height) for height in range(6, 0, -1))),
    (UP_AND_DOWN, ((),) * 6 + ((0, 0),) * 6),
    (UP_AND_DOWN, ((),) * 6 + ((5, 0), (0, 5), (3, 3), (2, 3), (1, 1), (0, 1))),
    ((0,) * 12, ((0, 0), (1, 0)) * 6),
    ((1, 0, 0, 1, 0, 0, 0, -1, 0, 0, -1, 0),
     ((), (0, 1), (1, 1), (), (0, 2), (0, 1), (1, 2), (1, 2), (0, 0), (0, 1), (0, 0), (1, 0))),
]

NO_HISTORIES = STRAYS + [(trail, ()) for trail in NO_TRAILS] + [
    (), ((),), ((), (), ()), [(), ()], ([], ()), ((), []), ((), None), ((), ((),)), ((0,), ()), ((0,), ((),)),
    ((0,), ((0, 1),)), ((0,), ((2, 0),)), ((0,), ((-1, 0),)), ((0,), ((0, -1),)), ((0,), ([0, 0],)), ((0,), [(0, 0)]),
    ([0], ((0, 0),)), [(0,), ((0, 0),)], ((0,), ((0, 0), (0, 0))), ((0,), ((0, 0, 0),)), ((0,), ((0,),)), ((0,), (0,)),
    ((0,), ((False, 0),)), ((0,), ((0, False),)), ((0,), ((True, 0),)), ((False,), ((0, 0),)), ((0,), (None,)),
    ((1, -1), ((), (0, 2))), ((1, -1), ((), (1, 0))), ((1, -1), ((), (1, 1))), ((1, -1), ((0, 0), (0, 0))),
    ((1, -1), ((), ())), ((1, -1), ([], (0, 0))), ((1, -1), ((), (-1, 0))), ((1, -1), ((), (0, BIG))),
    ((1, -1), ((), (0, True))), ((1, -1), ((), (False, 0))), ((1, -1), (None, (0, 0))), ((1, -1), ("", (0, 0))),
    ((1, 0, -1), ((), (0, 2), (0, 0))), ((1, 0, -1), ((), (2, 1), (0, 0))), ((-1, 1), ((0, 0), ())), ((1,), ((),)),
    ((0,) * 13, ((0, 0),) * 13), ((0,) * 12, ((0, 0),) * 13), ((0,) * 12, ((0, 0),) * 11), ((0,), "00"), ((0,), ("00",)),
]


def labels_told(trail):
    """All labels of a trail, straight from [25]."""
    choices = []
    height = 0
    for step in trail:
        if step == 1:
            choices.append([()])
        elif step == 0:
            choices.append([(kind, label) for kind in (0, 1) for label in range(height + 1)])
        else:
            choices.append([(first, second) for first in range(height) for second in range(height + 1)])
        height += step
    return list(itertools.product(*choices))


def histories_told(steps):
    return sorted((trail, labels) for trail in oracles.trails_told(steps) for labels in labels_told(trail))


def weight_told(history):
    """The weight of a history, by [25]."""
    power = ends = height = 0
    for step, label in zip(*history):
        if step == 0:
            kind, low = label
            power += low
            ends += 1 if kind == 0 and low == height else 0
        elif step == -1:
            first, second = label
            power += first + second
            ends += 1 if second == height else 0
        height += step
    return ((power, ends, 0, 1),)


def labels_added(step, height):
    """The weights of all items of the labels for a step at a height, added."""
    if step == 1:
        return oracles.ONE
    found = {}
    for first in range(2 if step == 0 else height):
        for second in range(height + 1):
            power = second if step == 0 else first + second
            end = int(second == height and (step == -1 or first == 0))
            found = oracles.added(found, {(power, end, 0): 1})
    return found


def sum_told(steps, height=0, known=None):
    """The weights of all histories of so many steps more, that begin at a height, added."""
    known = {} if known is None else known
    if (steps, height) not in known:
        total = dict(oracles.ONE) if steps == 0 and height == 0 else {}
        for step in (-1, 0, 1) if steps > 0 else ():
            if height + step >= 0:
                behind = sum_told(steps - 1, height + step, known)
                total = oracles.added(total, oracles.times(labels_added(step, height), behind))
        known[(steps, height)] = total
    return known[(steps, height)]


class IsHistory(unittest.TestCase):
    def test_all_labels_of_short_trails(self):
        items = [()] + [(first, second) for first in range(-1, 3) for second in range(-1, 4)]
        for steps in range(4):
            for trail in oracles.trails_told(steps):
                told = set(labels_told(trail))
                for labels in itertools.product(items, repeat=steps):
                    self.assertIs(is_history((trail, labels)), labels in told, (trail, labels))

    def test_long_histories(self):
        for history in LONG_HISTORIES:
            self.assertIs(is_history(history), True)
            longer = ((0,) + history[0], ((0, 0),) + history[1])
            self.assertIs(is_history(longer), False)

    def test_what_is_none(self):
        for value in NO_HISTORIES:
            self.assertIs(is_history(value), False, value)


class Lists(unittest.TestCase):
    def test_all_histories(self):
        for steps in range(6):
            self.assertEqual(histories_of(steps), histories_told(steps))
            self.assertEqual(len(histories_of(steps)), math.factorial(steps + 1))
        self.assertEqual(histories_of(0), [((), ())])

    def test_too_many_steps(self):
        for steps in (6, 7, 12):
            check_too_many(self, 5, histories_of, steps)
        check_error(self, InvalidSteps, histories_of, (13,))

    def test_counts(self):
        for steps in range(61):
            self.assertEqual(count_histories(steps), math.factorial(steps + 1))

    def test_lists_are_new(self):
        histories_of(1).clear()
        self.assertEqual(len(histories_of(1)), 2)


class Weights(unittest.TestCase):
    def test_all_short_histories_and_some_long_ones(self):
        histories = [history for steps in range(6) for history in histories_told(steps)]
        for history in histories + LONG_HISTORIES:
            self.assertEqual(history_weight(history), weight_told(history))
        self.assertEqual(history_weight(((), ())), ((0, 0, 0, 1),))
        self.assertEqual(history_weight(LONG_HISTORIES[0]), ((36, 6, 0, 1),))

    def test_sums_of_all_histories(self):
        for steps in range(6):
            told = oracles.added(*[oracles.totals(weight_told(history)) for history in histories_told(steps)])
            self.assertEqual(histories_weight(steps), oracles.terms(told))

    def test_sums_of_more_steps(self):
        for steps in range(9):
            self.assertEqual(histories_weight(steps), oracles.terms(sum_told(steps)))
            self.assertEqual(sum(term[3] for term in histories_weight(steps)), math.factorial(steps + 1))

    def test_the_whole_weight_with_1_for_b(self):
        for steps in range(1, 9):
            told = oracles.added(*[{(x, y, 0): many} for x, y, _, many in whole_weight(steps)])
            self.assertEqual(histories_weight(steps), oracles.terms(told))


class Wrong(unittest.TestCase):
    def test_errors(self):
        for function, most, good in ((histories_of, 12, 0), (histories_of, 12, 5), (count_histories, 60, 60),
                                     (count_histories, 60, 0), (histories_weight, 8, 8), (histories_weight, 8, 0)):
            check_arguments(self, function, (good, InvalidSteps, NO_INTEGERS + [-1, -BIG, most + 1, most + 2, BIG]))
        check_arguments(self, history_weight, (((), ()), InvalidHistory, NO_HISTORIES))


if __name__ == "__main__":
    unittest.main()
