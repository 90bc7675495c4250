"""States, steps and scripts: [45], [46], [88], [89], and the guarantees on them in [3]."""

import itertools
import unittest
from fractions import Fraction

from hoproads.errors import InvalidScript, InvalidState, InvalidStep, Stuck, Unlike
from hoproads.lifesteps import (all_stepped, is_script, is_state, is_step, script_home, script_to, seen_thing, state_share,
                                step_back, stepped, steps_that_can, way_rate)
from hoproads.steady import share_of
from tests import oracles
from tests.lives import (ELEVEN, EMPTY, NO_SCRIPTS, NO_STATES, NO_STEPS, ONE, STATES, STEPS, TWELVE, V, some_lives,
                         stepped_told)
from tests.support import ALL_RATES, R, S, STRAYS, all_rows, check_arguments, check_error, check_too_many

LIVES = some_lives(40, 12) + some_lives(9, 30) + [(state, ()) for state in STATES]
W = (("on", 1), ("in", 4), ("mirror",), ("watch", 0))


class Values(unittest.TestCase):
    def test_states_steps_and_scripts(self):
        for state in STATES:
            self.assertIs(is_state(state), True)
            self.assertIs(is_state(list(state)), False)
        for step in STEPS:
            self.assertIs(is_step(step), True, step)
            self.assertIs(is_step(list(step)), False)
            self.assertIs(is_script((step,)), True)
            self.assertIs(is_script((step,) * 30), True)
            self.assertIs(is_script((step,) * 31), False)
        self.assertIs(is_script(()), True)

    def test_all_places_things_and_marks(self):
        for word in ("in", "out", "on", "back", "watch", "mirror", "shorter", "no"):
            self.assertIs(is_step((word,)), word in ("mirror", "shorter"))
            for number in (-1, 0, 1, 2, 11, 12, 99, 100):
                least = {"in": 99, "out": 99, "on": 11, "back": 11, "watch": 11}.get(word, -2)
                self.assertIs(is_step((word, number)), 0 <= number <= least)
        for place, thing, mark in itertools.product((-1, 0, 11, 12), (-1, 0, 1, 2), (-1, 0, 99, 100)):
            told = place in (0, 11) and thing in (0, 1) and mark in (0, 99)
            self.assertIs(is_step(("put", place, thing, mark)), told)
            self.assertIs(is_step(("longer", thing, mark)), thing in (0, 1) and mark in (0, 99))

    def test_what_is_none(self):
        for value in NO_STATES:
            self.assertIs(is_state(value), False, value)
        for value in NO_STEPS:
            self.assertIs(is_step(value), False, value)
        for value in NO_SCRIPTS:
            self.assertIs(is_script(value), False, value)

    def test_seen(self):
        for state in STATES:
            self.assertEqual(seen_thing(state), (state[0][state[2]], state[1][state[2]]))


class Steps(unittest.TestCase):
    def test_all_steps_of_all_states(self):
        for state in STATES:
            for step in STEPS:
                told = stepped_told(state, step)
                if told is None:
                    check_error(self, Stuck, stepped, (state, step))
                    check_error(self, Stuck, step_back, (state, step))
                    check_error(self, Stuck, all_stepped, (state, (step,)))
                else:
                    self.assertEqual(stepped(state, step), told)
                    self.assertIs(is_state(told), True)
                    self.assertEqual(stepped(told, step_back(state, step)), state)

    def test_small_rows(self):
        for places in (1, 2, 3, 4):
            for row in all_rows(places):
                state = (row, tuple(range(50, 50 + places)), places // 2, S)
                for step in STEPS:
                    told = stepped_told(state, step)
                    if told is None:
                        check_error(self, Stuck, stepped, (state, step))
                    else:
                        self.assertEqual(stepped(state, step), told)

    def test_first_and_last_place(self):
        self.assertEqual(stepped(EMPTY, ("in", 5))[:2], ((1,) + (0,) * 11, (5,) + (0,) * 11))
        self.assertEqual(stepped(TWELVE, ("out", 5))[1], TWELVE[1][:11] + (5,))
        for step in (("on", 11), ("back", 0), ("in", 5), ("longer", 0, 0), ("shorter",)):
            check_error(self, Stuck, stepped, (TWELVE, step))
        self.assertEqual(stepped(ELEVEN, ("longer", 0, 3))[:2], ((1,) * 11 + (0,), (99,) * 11 + (3,)))
        check_error(self, Stuck, stepped, (ONE, ("shorter",)))
        check_error(self, Stuck, stepped, (((1, 0), (1, 2), 1, R), ("shorter",)))
        self.assertEqual(stepped(((1, 0), (1, 2), 0, R), ("shorter",)), ((1,), (1,), 0, R))

    def test_back_at_the_rate_0(self):
        state = ((0, 1), (3, 4), 0, R)
        self.assertEqual(stepped(state, ("back", 1)), ((1, 0), (4, 3), 0, R))
        self.assertEqual(way_rate(state, (("back", 1),)), (0, 1))

    def test_steps_back(self):
        self.assertEqual(step_back(V, ("back", 1)), ("on", 0))
        self.assertEqual(step_back(TWELVE, ("out", 1)), ("put", 11, 1, 99))
        self.assertEqual(step_back(ONE, ("longer", 1, 1)), ("shorter",))
        self.assertEqual(step_back(ELEVEN, ("shorter",)), ("longer", 1, 99))
        self.assertEqual(step_back(V, ("rates", S)), ("rates", S))

    def test_scripts(self):
        for state, script in LIVES:
            states = all_stepped(state, script)
            self.assertEqual(len(states), len(script) + 1)
            self.assertEqual(states[0], state)
            for step, now, behind in zip(script, states, states[1:]):
                self.assertEqual(behind, stepped_told(now, step))
        states = all_stepped(V, ())
        states.clear()
        self.assertEqual(all_stepped(V, ()), [V])

    def test_the_first_step_that_errs(self):
        for script in ((("on", 0),), (("on", 1), ("on", 1)), W + (("put", 11, 0, 0),), (("mirror",),) * 29 + (("on", 11),)):
            for function in (all_stepped, script_home, way_rate):
                check_error(self, Stuck, function, (V, script))

    def test_steps_that_can(self):
        for state in STATES:
            told = [at for at, step in enumerate(STEPS) if stepped_told(state, step) is not None]
            self.assertEqual(steps_that_can(state, tuple(STEPS)), told)
        self.assertEqual(steps_that_can(V, ()), [])
        self.assertEqual(steps_that_can(V, (("mirror",),) * 60), list(range(60)))
        check_error(self, InvalidStep, steps_that_can, (V, (("mirror",),) * 61))


class Rates(unittest.TestCase):
    def test_way_rates(self):
        for state, script in LIVES:
            told = Fraction(1)
            for step, now in zip(script, all_stepped(state, script)):
                words = {"in": now[3][0], "out": now[3][1], "on": (1, 1), "back": now[3][2]}
                told *= Fraction(*words.get(step[0], (1, 1)))
            self.assertEqual(way_rate(state, script), oracles.pair(told))
        self.assertEqual(way_rate(V, (("in", 0), ("rates", R), ("put", 0, 0, 0), ("in", 0))), (1, 2))
        self.assertEqual(way_rate(V, (("mirror",), ("put", 0, 0, 0), ("in", 0), ("mirror",), ("put", 0, 0, 0), ("in", 0))), (1, 3))

    def test_shares(self):
        for rates in ALL_RATES[:4]:
            for row in all_rows(2) + all_rows(3):
                state = (row, (1,) * len(row), 0, rates)
                self.assertEqual(state_share(state), share_of(rates, row))
                self.assertEqual(state_share(stepped(state, ("mirror",))), state_share(state))
        ten = ((1, 0) * 5, (0,) * 10, 9, S)
        self.assertEqual(state_share(ten), share_of(S, (1, 0) * 5))
        self.assertEqual(state_share(stepped(ten, ("mirror",))), state_share(ten))

    def test_10_places_and_11(self):
        for state in (ELEVEN, TWELVE, EMPTY):
            check_too_many(self, 10, state_share, state)


class Guarantees(unittest.TestCase):
    def test_each_script_is_led_back(self):
        for state, script in LIVES:
            home = script_home(state, script)
            states = all_stepped(state, script)
            self.assertEqual(all_stepped(states[-1], home), states[::-1])
            self.assertEqual(len(home), len(script))
            self.assertEqual(home, tuple(step_back(now, step) for now, step in zip(states, script))[::-1])

    def test_from_each_state_to_each_other_one(self):
        small = [(row, (0,) * len(row), place, rates) for row in all_rows(2) for place in (0, 1) for rates in (R, S)]
        small += [((0, 1), (marks, 5), 1, R) for marks in (0, 99)]
        for one, other in itertools.product(small, repeat=2):
            self.check_led(one, other)
        for one, other in itertools.product([TWELVE, EMPTY, ((1,) * 12, (7,) * 12, 3, R)], repeat=2):
            self.check_led(one, other)
        self.check_led(ONE, ((0,), (99,), 0, S))

    def check_led(self, one, other):
        script = script_to(one, other)
        self.assertIs(is_script(script), True)
        self.assertEqual(all_stepped(one, script)[-1], other)

    def test_states_of_other_roads(self):
        for one, other in itertools.permutations([V, ONE, TWELVE, ELEVEN], 2):
            check_error(self, Unlike, script_to, (one, other))


class Wrong(unittest.TestCase):
    def test_errors_in_order(self):
        state = (V, InvalidState, NO_STATES)
        step = (("on", 1), InvalidStep, NO_STEPS)
        script = (W, InvalidScript, NO_SCRIPTS)
        for function in (seen_thing, state_share):
            check_arguments(self, function, state)
        for function in (stepped, step_back):
            check_arguments(self, function, state, step)
        for function in (all_stepped, script_home, way_rate):
            check_arguments(self, function, state, script)
            check_arguments(self, function, state, ((("mirror",),) * 30, InvalidScript, NO_SCRIPTS))
        check_arguments(self, script_to, state, (V, InvalidState, NO_STATES))
        steps = [value for value in NO_SCRIPTS if value != (("mirror",),) * 31] + [(("mirror",),) * 61]
        check_arguments(self, steps_that_can, state, (tuple(STEPS[:60]), InvalidStep, steps))

    def test_strays(self):
        for value in STRAYS:
            self.assertIs(is_state(value), False)
            self.assertIs(is_step(value), False)
            self.assertIs(is_script(value), value == () and isinstance(value, tuple))


if __name__ == "__main__":
    unittest.main()
