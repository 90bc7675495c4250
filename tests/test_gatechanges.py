"""Gates and cars exchanged: [42], [83], and the guarantees on them in [3]."""

import itertools
import unittest

from hoproads.errors import InvalidCar, InvalidGate, InvalidSequence, InvalidWaits
from hoproads.gatechanges import cars_exchanged, cars_led, gates_exchanged, gates_led, totals_of
from hoproads.waits import are_waits, times_of
from tests.gates import (EMPTY, FULL, LONG, MOST, NONE, SIX, SOME_WAITS, SPREAD, TALL, V, X, chance_waits,
                         exchanged_told, small_waits, turned)
from tests.support import BIG, NO_INTEGERS, STRAYS, check_arguments, check_error
from tests.test_waits import NO_WAITS

SOME = SOME_WAITS + chance_waits(60, 5, 5) + chance_waits(30, 5, 5, 2)
SMALL = small_waits(2, 2, 3) + small_waits(2, 3, 1) + small_waits(3, 2, 2)

# none of these is an order of three gates
NO_SEQUENCES = STRAYS + [
    (), (0,), (0, 1), (1, 0), (0, 1, 2, 3), (0, 0, 0), (0, 1, 1), (1, 2, 3), (0, 1, -1), (0, 1, 3), [0, 1, 2], [2, 1, 0],
    (False, 1, 2), (0, True, 2), (0, 1, None), (0, 1, "2"), "012", ((0,), (1,), (2,)), (0, 1, BIG), (0, 1, (2,)), (2, 2, 0),
]


class Exchanged(unittest.TestCase):
    def test_gates_and_cars(self):
        for waits in SOME + SMALL:
            for gate in range(len(waits[0]) - 1):
                self.assertEqual(gates_exchanged(waits, gate), exchanged_told(waits, gate))
            for car in range(len(waits) - 1):
                self.assertEqual(cars_exchanged(waits, car), turned(exchanged_told(turned(waits), car)))

    def test_one_car_alone(self):
        self.assertEqual(gates_exchanged(LONG, 0), ((1, 0) + tuple(range(2, 12)),))
        self.assertEqual(gates_exchanged(LONG, 10), (tuple(range(10)) + (11, 10),))
        self.assertEqual(cars_exchanged(TALL, 10), tuple((car,) for car in list(range(10)) + [11, 10]))

    def test_waits_of_0(self):
        for at in (0, 5, 10):
            self.assertEqual(gates_exchanged(EMPTY, at), EMPTY)
            self.assertEqual(cars_exchanged(EMPTY, at), EMPTY)
        self.assertEqual(gates_exchanged(NONE, 1), NONE)

    def test_totals(self):
        for waits in SOME + SMALL:
            self.assertEqual(totals_of(waits), (tuple(map(sum, waits)), tuple(map(sum, zip(*waits)))))
        self.assertEqual(totals_of(MOST), ((10 ** 9,), (10 ** 9,)))


class Guarantees(unittest.TestCase):
    def test_times_at_other_gates_stay(self):
        for waits in SOME + SMALL:
            times = times_of(waits)
            cars, gates = totals_of(waits)
            for gate in range(len(waits[0]) - 1):
                other = gates_exchanged(waits, gate)
                self.assertIs(are_waits(other), True)
                for row, before in zip(times_of(other), times):
                    self.assertEqual(row[:gate] + row[gate + 1:], before[:gate] + before[gate + 1:])
                self.assertEqual(totals_of(other)[0], cars)
                led = gates[:gate] + (gates[gate + 1], gates[gate]) + gates[gate + 2:]
                self.assertEqual(totals_of(other)[1], led)
                for row, before in zip(other, waits):
                    self.assertEqual(row[gate] + row[gate + 1], before[gate] + before[gate + 1])
                    self.assertEqual(row[:gate] + row[gate + 2:], before[:gate] + before[gate + 2:])

    def test_times_of_other_cars_stay(self):
        for waits in SOME + SMALL:
            times = times_of(waits)
            cars, gates = totals_of(waits)
            for car in range(len(waits) - 1):
                other = cars_exchanged(waits, car)
                self.assertIs(are_waits(other), True)
                found = times_of(other)
                self.assertEqual(found[:car] + found[car + 1:], times[:car] + times[car + 1:])
                led = cars[:car] + (cars[car + 1], cars[car]) + cars[car + 2:]
                self.assertEqual(totals_of(other), (led, gates))

    def test_exchanged_again_the_waits_are_as_before(self):
        for waits in SOME + SMALL:
            for gate in range(len(waits[0]) - 1):
                self.assertEqual(gates_exchanged(gates_exchanged(waits, gate), gate), waits)
            for car in range(len(waits) - 1):
                self.assertEqual(cars_exchanged(cars_exchanged(waits, car), car), waits)

    def test_exchanges_can_change_their_turn(self):
        for waits in SOME:
            for one, other in itertools.combinations(range(len(waits[0]) - 1), 2):
                if other - one > 1:
                    self.assertEqual(gates_exchanged(gates_exchanged(waits, one), other),
                                     gates_exchanged(gates_exchanged(waits, other), one))
            for one, other in itertools.combinations(range(len(waits) - 1), 2):
                if other - one > 1:
                    self.assertEqual(cars_exchanged(cars_exchanged(waits, one), other),
                                     cars_exchanged(cars_exchanged(waits, other), one))
            for gate in range(min(len(waits[0]) - 1, 4)):
                for car in range(min(len(waits) - 1, 4)):
                    self.assertEqual(gates_exchanged(cars_exchanged(waits, car), gate),
                                     cars_exchanged(gates_exchanged(waits, gate), car))

    def test_three_neighbours_both_ways(self):
        for waits in SOME + SMALL:
            for function, many in ((gates_exchanged, len(waits[0])), (cars_exchanged, len(waits))):
                for at in range(many - 2):
                    one = function(function(function(waits, at), at + 1), at)
                    other = function(function(function(waits, at + 1), at), at + 1)
                    self.assertEqual(one, other)


class Led(unittest.TestCase):
    def led_told(self, waits, order, function):
        """The waits led to an order by exchanges of whatever neighbours stand the wrong way, from the last ones on."""
        numbers = list(range(len(order)))
        changes = 0
        while tuple(numbers) != order:
            at = max(at for at in range(len(order) - 1) if order.index(numbers[at]) > order.index(numbers[at + 1]))
            waits = function(waits, at)
            numbers[at], numbers[at + 1] = numbers[at + 1], numbers[at]
            changes += 1
        self.assertLessEqual(changes, len(order) * (len(order) - 1) // 2)
        return waits

    def test_all_orders(self):
        for waits in [V, X, SPREAD, NONE, ((0,),), ((5, 3),)] + chance_waits(8, 4, 4):
            cars, gates = totals_of(waits)
            for order in itertools.permutations(range(len(gates))):
                found = gates_led(waits, order)
                self.assertEqual(found, self.led_told(waits, order, gates_exchanged))
                self.assertEqual(totals_of(found), (cars, tuple(gates[at] for at in order)))
            for order in itertools.permutations(range(len(cars))):
                found = cars_led(waits, order)
                self.assertEqual(found, self.led_told(waits, order, cars_exchanged))
                self.assertEqual(totals_of(found), (tuple(cars[at] for at in order), gates))

    def test_orders_that_turn_all_about(self):
        for waits in (FULL, SIX, LONG, TALL, EMPTY):
            for function, one, many in ((gates_led, gates_exchanged, len(waits[0])), (cars_led, cars_exchanged, len(waits))):
                about = tuple(range(many))[::-1]
                self.assertEqual(function(waits, about), self.led_told(waits, about, one))
                self.assertEqual(function(function(waits, about), about), waits)
                self.assertEqual(function(waits, tuple(range(many))), waits)
                on = tuple(range(1, many)) + (0,)
                self.assertEqual(function(waits, on), self.led_told(waits, on, one))
        self.assertEqual(gates_led(TALL, (0,)), TALL)
        self.assertEqual(cars_led(LONG, (0,)), LONG)


class Wrong(unittest.TestCase):
    def test_errors_in_order(self):
        waits = (FULL, InvalidWaits, NO_WAITS)
        for good in (0, 10):
            wrong = NO_INTEGERS + [-1, 11, 12, BIG, -BIG]
            check_arguments(self, gates_exchanged, waits, (good, InvalidGate, wrong))
            check_arguments(self, cars_exchanged, waits, (good, InvalidCar, wrong))
        three = (((2, 0, 1), (1, 3, 0), (0, 0, 0)), InvalidWaits, NO_WAITS)
        for order in ((0, 1, 2), (2, 1, 0)):
            for function in (gates_led, cars_led):
                check_arguments(self, function, three, (order, InvalidSequence, NO_SEQUENCES))
        check_arguments(self, totals_of, waits)

    def test_one_gate_or_one_car(self):
        for at in (0, 1, -1, None, True):
            check_error(self, InvalidGate, gates_exchanged, (TALL, at))
            check_error(self, InvalidCar, cars_exchanged, (LONG, at))
        for order in ((), (1,), (False,), (0, 0), (0, 1), [0]):
            check_error(self, InvalidSequence, gates_led, (TALL, order))
            check_error(self, InvalidSequence, cars_led, (LONG, order))

    def test_orders_of_the_others(self):
        # two cars, three gates
        check_error(self, InvalidSequence, gates_led, (X, (1, 0)))
        check_error(self, InvalidSequence, cars_led, (X, (2, 0, 1)))


if __name__ == "__main__":
    unittest.main()
