"""Points [4] to [8], [42] and [43]: events, fuel and the endings."""

import unittest

from windowada import outcome
from windowada.errors import AdaError
from windowada.outcome import Events, Fuel, NoInput, OutOfFuel


class ConstantsTest(unittest.TestCase):

    def test_endings(self):
        self.assertEqual(
            (outcome.NORMAL, outcome.EXHAUSTED, outcome.FAULT, outcome.STOPPED),
            (("normal",), ("exhausted",), ("fault",), ("stopped",)),
        )

    def test_exceptions(self):
        self.assertEqual(outcome.PREDEFINED, ("constraint_error", "program_error", "storage_error", "end_error"))
        self.assertEqual((outcome.CONSTRAINT, outcome.PROGRAM, outcome.STORAGE, outcome.END), (0, 1, 2, 3))
        self.assertEqual(outcome.DEPTH_LIMIT, 10)

    def test_errors(self):
        self.assertEqual((NoInput.__bases__, OutOfFuel.__bases__), ((AdaError,), (AdaError,)))


class EventsTest(unittest.TestCase):

    def test_put(self):
        events = Events([])
        self.assertEqual(events.rows, ())
        self.assertIsNone(events.put(5))
        self.assertIsNone(events.put(-2147483648))
        self.assertEqual(events.rows, (("put", 5), ("put", -2147483648)))

    def test_get(self):
        events = Events([7, -8, 7])
        self.assertEqual([events.get(), events.get()], [7, -8])
        events.put(1)
        self.assertEqual(events.get(), 7)
        self.assertEqual(events.rows, (("get", 7), ("get", -8), ("put", 1), ("get", 7)))

    def test_no_input(self):
        events = Events([4])
        events.get()
        for _ in range(3):
            self.assertRaises(NoInput, events.get)
            self.assertEqual(events.rows, (("get", 4),))
        events.put(2)
        self.assertEqual(events.rows, (("get", 4), ("put", 2)))
        self.assertRaises(NoInput, Events([]).get)

    def test_inputs_are_copied(self):
        inputs = [1, 2]
        events = Events(inputs)
        inputs[0] = 9
        inputs.append(3)
        self.assertEqual([events.get(), events.get()], [1, 2])
        self.assertRaises(NoInput, events.get)
        self.assertEqual(inputs, [9, 2, 3])

    def test_inputs_are_not_changed(self):
        inputs = [1, 2]
        Events(inputs).get()
        self.assertEqual(inputs, [1, 2])

    def test_rows_that_were_returned_stay(self):
        events = Events([3])
        events.put(1)
        before = events.rows
        self.assertIs(type(before), tuple)
        self.assertTrue(all(type(row) is tuple for row in before))
        events.get()
        self.assertEqual(before, (("put", 1),))
        self.assertEqual(len(events.rows), 2)

    def test_two_objects_have_nothing_in_common(self):
        inputs = [1]
        one, other = Events(inputs), Events(inputs)
        one.get()
        self.assertEqual(other.rows, ())
        self.assertEqual(other.get(), 1)

    def test_many_inputs(self):
        events = Events(list(range(200)))
        self.assertEqual([events.get() for _ in range(200)], list(range(200)))
        self.assertRaises(NoInput, events.get)


class FuelTest(unittest.TestCase):

    def test_units(self):
        fuel = Fuel(2)
        self.assertEqual(fuel.remaining, 2)
        self.assertIsNone(fuel.tick())
        self.assertEqual(fuel.remaining, 1)
        fuel.tick()
        self.assertEqual(fuel.remaining, 0)
        for _ in range(3):
            self.assertRaises(OutOfFuel, fuel.tick)
            self.assertEqual(fuel.remaining, 0)

    def test_ends(self):
        self.assertRaises(OutOfFuel, Fuel(0).tick)
        fuel = Fuel(100000)
        for _ in range(100000):
            fuel.tick()
        self.assertRaises(OutOfFuel, fuel.tick)

    def test_two_objects_have_nothing_in_common(self):
        one, other = Fuel(1), Fuel(1)
        one.tick()
        self.assertEqual(other.remaining, 1)


if __name__ == "__main__":
    unittest.main()
