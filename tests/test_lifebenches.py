"""Benches: [92]."""

import random
import unittest

from hoproads.errors import (HopError, InvalidPlace, InvalidScript, InvalidState, InvalidStep, NothingToRedo, NothingToUndo,
                             Stuck, TooMany)
from hoproads.lifebenches import Bench
from hoproads.roads import hops_of, rate_away
from tests.lives import NO_SCRIPTS, NO_STATES, NO_STEPS, ONE, STATES, TWELVE, V, some_lives, some_step, stepped_told
from tests.support import BIG, NO_INTEGERS, R, S, STRAYS, check_arguments, check_error

W = (("on", 1), ("in", 4))
NO_PLACES = NO_INTEGERS + [-1, 12, BIG, -BIG, slice(0, 1)]


class Model:
    """A bench told by lists: all states it had, where it is among them, and the steps between them."""

    def __init__(self, state):
        self.states, self.calls, self.at = [state], [], 0

    @property
    def state(self):
        return self.states[self.at]

    def add(self, steps, state):
        self.states = self.states[:self.at + 1] + [state]
        self.calls = self.calls[:self.at] + [steps]
        self.at += 1

    @property
    def log(self):
        return tuple(step for steps in self.calls[:self.at] for step in steps)


def all_of(bench):
    """Everything that a bench shows, and what can be done again, by doing it and taking it back."""
    told = (bench.state, bench.log, len(bench))
    again = 0
    try:
        while True:
            bench.redo()
            again += 1
            told += (bench.state, bench.log)
    except NothingToRedo:
        for _ in range(again):
            bench.undo()
    back = 0
    try:
        while True:
            bench.undo()
            back += 1
            told += (bench.state, bench.log)
    except NothingToUndo:
        for _ in range(back):
            bench.redo()
    return told


class Shown(unittest.TestCase):
    def check_shown(self, bench, state, many, log):
        row, marks, place, rates = state
        self.assertEqual((bench.state, bench.row, bench.marks, bench.place, bench.rates), (state, row, marks, place, rates))
        self.assertEqual(bench.seen, (row[place], marks[place]))
        self.assertEqual(bench.away, rate_away(row, rates))
        self.assertEqual(bench.log, log)
        self.assertEqual(len(bench), many)
        self.assertIs(bool(bench), row[place] == 1)
        for at in range(len(row)):
            self.assertEqual(bench[at], (row[at], marks[at]))
        lines = [("car " if row[at] else "free ") + str(marks[at]) + "*" * (at == place) for at in range(len(row))]
        self.assertEqual(list(bench.lines()), lines)
        for word in ("in", "out", "on", "back"):
            for at in range(-1, 13):
                self.assertIs((word, at) in bench, (word, at) in hops_of(row))

    def test_new_benches(self):
        for state in STATES:
            self.check_shown(Bench(state), state, 0, ())
            self.assertIs(type(Bench(state).log), tuple)
        self.assertEqual((Bench.MOST, Bench(V).MOST), (60, 60))
        check_arguments(self, Bench, (V, InvalidState, NO_STATES))

    def test_lives(self):
        for state, script in some_lives(12, 20):
            bench, now = Bench(state), state
            for at, step in enumerate(script):
                behind = stepped_told(now, step)
                self.assertIs(bench.do(step), behind != now)
                now = behind
                self.check_shown(bench, now, at + 1, script[:at + 1])

    def test_places_and_hops_that_are_none(self):
        bench = Bench(V)
        for place in NO_PLACES + [3]:
            check_error(self, InvalidPlace, bench.__getitem__, (place,))
        for value in STRAYS + [["on", 1], ("on", True), ("in", 1), ("out", 2)]:
            self.assertIs(value in bench, False)

    def test_properties_are_not_assigned(self):
        bench = Bench(V)
        for name in ("state", "row", "marks", "place", "rates", "seen", "away", "log"):
            with self.assertRaises(AttributeError):
                setattr(bench, name, None)

    def test_equal(self):
        bench = Bench(V)
        bench.do(("mirror",))
        bench.do(("mirror",))
        self.assertIs(bench == Bench(V), True)
        self.assertIs(bench != Bench(V), False)
        self.assertIs(bench == Bench(ONE), False)
        for value in STRAYS + [V, TWELVE, str(V), object()]:
            self.assertIs(bench == value, False)
            self.assertIs(value == bench, False)
            self.assertIs(bench != value, True)

    def test_it_is_not_iterated_over(self):
        for call in (iter, list, tuple, lambda bench: [item for item in bench]):
            with self.assertRaises(TypeError):
                call(Bench(V))


class Lines(unittest.TestCase):
    def test_lines_asked_for_while_the_bench_changes(self):
        bench = Bench(V)
        lines = bench.lines()
        self.assertIs(iter(lines), lines)
        bench.do(("on", 1))
        # it shows what there is as the first item is asked for
        self.assertEqual(next(lines), "free 5")
        bench.do(("mirror",))
        bench.do(("longer", 1, 1))
        self.assertEqual(list(lines), ["free 9*", "car 7"])
        self.assertEqual(list(lines), [])
        self.assertEqual(list(bench.lines()), ["free 7", "car 9*", "car 5", "car 1"])

    def test_two_at_once(self):
        bench = Bench(V)
        one, other = bench.lines(), bench.lines()
        self.assertEqual(next(one), "free 5")
        bench.do(("in", 1))
        self.assertEqual([next(other), next(one), next(other)], ["car 1", "car 7*", "car 7*"])


class TakenBack(unittest.TestCase):
    def test_chance_calls(self):
        chance = random.Random(9)
        for state in STATES * 3:
            bench, model = Bench(state), Model(state)
            for _ in range(150):
                self.one_call(chance, bench, model)
                self.assertEqual((bench.state, bench.log, len(bench)), (model.state, model.log, model.at))

    def one_call(self, chance, bench, model):
        kind = chance.choice(["do", "do", "do", "undo", "redo", "script", "undo"])
        if kind == "undo":
            if model.at == 0:
                check_error(self, NothingToUndo, bench.undo, ())
            else:
                self.assertIs(bench.undo(), None)
                model.at -= 1
        elif kind == "redo":
            if model.at == len(model.calls):
                check_error(self, NothingToRedo, bench.redo, ())
            else:
                self.assertIs(bench.redo(), None)
                model.at += 1
        else:
            script = tuple(some_step(chance, len(model.state[0])) for _ in range(1 if kind == "do" else chance.randint(0, 3)))
            behind = model.state
            for step in script:
                behind = behind and stepped_told(behind, step)
            call, told = (bench.do, script[:1]) if kind == "do" else (bench.__iadd__, (script,))
            if behind is None:
                check_error(self, Stuck, call, told)
            elif model.at == 60:
                check_error(self, TooMany, call, told)
            else:
                found = call(*told)
                self.assertIs(found, behind != model.state if kind == "do" else bench)
                model.add(script, behind)

    def test_calls_that_change_nothing(self):
        bench = Bench(V)
        self.assertIs(bench.do(("watch", 1)), False)
        self.assertIs(bench.do(("put", 1, 1, 7)), False)
        bench += ()
        bench += (("mirror",), ("mirror",))
        self.assertEqual((len(bench), bench.state, bench.log), (4, V, (("watch", 1), ("put", 1, 1, 7), ("mirror",), ("mirror",))))
        bench.undo()
        self.assertEqual((len(bench), bench.log), (3, (("watch", 1), ("put", 1, 1, 7))))
        bench.undo()
        self.assertEqual((len(bench), bench.log), (2, (("watch", 1), ("put", 1, 1, 7))))
        bench.redo()
        bench.redo()
        self.assertEqual(len(bench), 4)
        check_error(self, NothingToRedo, bench.redo, ())

    def test_done_again_until_another_call(self):
        bench = Bench(V)
        bench.do(W[0])
        bench.do(W[1])
        bench.undo()
        # calls that err do not count
        check_error(self, Stuck, bench.do, (("on", 0),))
        check_error(self, InvalidStep, bench.do, (("on", 12),))
        check_error(self, InvalidScript, bench.__iadd__, (["on"],))
        bench.redo()
        self.assertEqual(bench.log, W)
        bench.undo()
        bench.do(("watch", 1))
        check_error(self, NothingToRedo, bench.redo, ())
        bench.undo()
        bench.undo()
        bench += ()
        check_error(self, NothingToRedo, bench.redo, ())

    def test_60_calls_and_one_more(self):
        bench = Bench(V)
        for _ in range(60):
            bench.do(("watch", 1))
        self.assertEqual(len(bench), 60)
        for call, told in ((bench.do, ("watch", 1)), (bench.do, ("mirror",)), (bench.__iadd__, ()), (bench.__iadd__, W)):
            with self.assertRaises(TooMany) as caught:
                call(told)
            self.assertEqual(caught.exception.limit, 60)
        # the errors of the steps come first
        check_error(self, InvalidStep, bench.do, (("on",),))
        check_error(self, Stuck, bench.do, (("on", 0),))
        check_error(self, InvalidScript, bench.__iadd__, (W * 16,))
        check_error(self, Stuck, bench.__iadd__, ((("on", 0),),))
        self.assertEqual((len(bench), bench.state), (60, V))
        bench.undo()
        check_error(self, Stuck, bench.do, (("on", 0),))
        bench.redo()
        bench.undo()
        self.assertIs(bench.do(("mirror",)), True)
        self.assertEqual(len(bench), 60)
        check_error(self, TooMany, bench.do, (("mirror",),))

    def test_scripts_are_one_call(self):
        bench = other = Bench(V)
        bench += W
        self.assertIs(bench, other)
        self.assertEqual((len(bench), bench.log), (1, W))
        check_error(self, Stuck, bench.__iadd__, ((("mirror",), ("in", 1), ("in", 2)),))
        self.assertEqual((len(bench), bench.log), (1, W))
        bench.undo()
        self.assertEqual((bench.state, bench.log, len(bench)), (V, (), 0))
        bench.redo()
        self.assertEqual(bench.log, W)
        bench += (("mirror",),) * 30
        self.assertEqual((len(bench), len(bench.log)), (2, 32))

    def test_wrong_steps_and_scripts(self):
        bench = Bench(V)
        bench.do(W[0])
        bench.undo()
        for value in NO_STEPS:
            check_error(self, InvalidStep, bench.do, (value,))
        for value in NO_SCRIPTS:
            check_error(self, InvalidScript, bench.__iadd__, (value,))
        bench.redo()
        self.assertEqual((bench.state, bench.log), (stepped_told(V, W[0]), W[:1]))


class Attempts(unittest.TestCase):
    def bench(self):
        """A bench with two calls that can be taken back, and two that can be done again."""
        bench = Bench(V)
        for step in (W[0], W[1], ("mirror",), ("watch", 2)):
            bench.do(step)
        bench.undo()
        bench.undo()
        return bench

    def test_one_that_ends_well(self):
        bench = self.bench()
        held = []

        def action(some):
            held.append(some)
            some.undo()
            some.do(("rates", R))
            return ["told"]

        self.assertEqual(bench.attempt(action), ["told"])
        self.assertIs(held[0], bench)
        self.assertEqual((bench.log, bench.rates), ((W[0], ("rates", R)), R))
        check_error(self, NothingToRedo, bench.redo, ())
        self.assertIs(bench.attempt(lambda some: None), None)
        self.assertIs(bench.attempt(lambda some: some.do(("mirror",))), True)
        self.assertEqual(len(bench), 3)

    def test_one_that_ends_with_an_error(self):
        for error in (Stuck("here"), HopError("here"), ValueError("here"), KeyError(1), TypeError(), TooMany(4), ZeroDivisionError(),
                      StopIteration(), KeyboardInterrupt(), AssertionError("here")):
            bench = self.bench()
            before = all_of(bench)

            def action(some):
                some.undo()
                some.undo()
                some.do(("longer", 0, 1))
                some += W
                raise error

            with self.assertRaises(type(error)) as caught:
                bench.attempt(action)
            self.assertIs(caught.exception, error)
            self.assertEqual(all_of(bench), before)

    def test_one_that_ends_with_an_error_of_a_step(self):
        bench = self.bench()
        before = all_of(bench)
        check_error(self, Stuck, bench.attempt, (lambda some: [some.redo(), some.do(("on", 11))],))
        self.assertEqual(all_of(bench), before)
        check_error(self, NothingToUndo, bench.attempt, (lambda some: [some.undo() for _ in range(9)],))
        self.assertEqual(all_of(bench), before)
        check_error(self, NothingToRedo, bench.attempt, (lambda some: [some.redo() for _ in range(9)],))
        self.assertEqual(all_of(bench), before)
        check_error(self, TooMany, bench.attempt, (lambda some: [some.do(("watch", 0)) for _ in range(61)],))
        self.assertEqual(all_of(bench), before)

    def test_what_is_no_function(self):
        bench = self.bench()
        before = all_of(bench)
        for value in (None, 5, "on", (), [], True):
            with self.assertRaises(TypeError):
                bench.attempt(value)
            self.assertEqual(all_of(bench), before)

    def test_attempts_within_attempts(self):
        bench = self.bench()
        before = all_of(bench)

        def inner(some):
            some.do(("mirror",))
            raise InvalidStep("inner")

        def outer(some):
            some.do(("watch", 0))
            try:
                some.attempt(inner)
            except InvalidStep:
                some.do(("longer", 1, 2))
            return some.log

        log = bench.attempt(outer)
        self.assertEqual(log, W + (("watch", 0), ("longer", 1, 2)))
        self.assertEqual(bench.log, log)
        bench = self.bench()
        check_error(self, InvalidStep, bench.attempt, (lambda some: [some.attempt(outer), some.attempt(inner)],))
        self.assertEqual(all_of(bench), before)

    def test_another_bench_is_not_changed_back(self):
        one, other = self.bench(), Bench(ONE)

        def action(some):
            other.do(("mirror",))
            some.do(("mirror",))
            raise Stuck("here")

        before = all_of(one)
        check_error(self, Stuck, one.attempt, (action,))
        self.assertEqual((all_of(one), other.log), (before, (("mirror",),)))

    def test_a_function_of_a_bench_of_12_places(self):
        bench = Bench(TWELVE)
        self.assertEqual(bench.attempt(len), 0)
        self.assertIs(bench.attempt(bool), True)
        self.assertEqual(bench.attempt(lambda some: some.state), TWELVE)
        self.assertEqual(bench.rates, S)


if __name__ == "__main__":
    unittest.main()
