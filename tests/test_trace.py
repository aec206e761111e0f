"""Point [57]: the trace of a run."""

import random
import unittest

from tests.modules import MIN, WORDS, main, make_module, module, parts, unit
from tests.refcode import Reference
from windowada.runner import run_module
from windowada.trace import trace_module

TICK, END, R0, R1 = ("tick",), ("return", ()), ("reg", 0), ("reg", 1)


def trace(made, inputs=(), fuel=100, limit=10000):
    return trace_module(made, list(inputs), fuel=fuel, limit=limit)


class TraceTest(unittest.TestCase):

    def test_registers_ahead_of_each_instruction(self):
        made = main(("move", 0, ("int", 5)), ("get", 1, 0), ("add", 0, R0, R1, 0), registers=2)
        expected = [(0, 0, (0, 0)), (0, 1, (0, 0)), (0, 2, (5, 0)), (0, 3, (5, 7)), (0, 4, (12, 7))]
        self.assertEqual(trace(made, [7]), expected)
        self.assertIs(type(trace(made)), list)

    def test_without_registers(self):
        self.assertEqual(trace(main(registers=0)), [(0, 0, ()), (0, 1, ())])

    def test_exhausted(self):
        """The tick without fuel is noted."""
        made = main(TICK, ("put", R0), TICK, ("put", R0), registers=1)
        for fuel, last in ((0, 0), (1, 1), (2, 3), (3, 5), (4, 5)):
            self.assertEqual(trace(made, fuel=fuel), [(0, index, (0,)) for index in range(last + 1)])

    def test_raised(self):
        """The instruction that raises is noted."""
        for wrong in (("raise", 1, 0), ("again", R0, R0), ("get", 0, 0), ("neg", 0, ("int", MIN), 0), ("check", R0, 1, 1, 0)):
            made = main(("put", R0), wrong, ("put", R0), registers=1)
            self.assertEqual(run_module(made, [], fuel=5)[1][0], "raised")
            self.assertEqual(trace(made), [(0, 0, (0,)), (0, 1, (0,)), (0, 2, (0,))])

    def test_fault(self):
        for wrong in (("load", 0, 0, 0, 1, ("int", 1)), ("store", 0, 0, 1, ("int", -1), R0), ("again", ("int", 9), R0)):
            made = main(wrong, ("put", R0), registers=1, cells=1)
            self.assertEqual(run_module(made, [], fuel=5)[1], ("fault",))
            self.assertEqual(trace(made), [(0, 0, (0,)), (0, 1, (0,))])

    def test_limit(self):
        made = main(("move", 0, ("int", 5)), ("put", R0), registers=1)
        whole = [(0, 0, (0,)), (0, 1, (0,)), (0, 2, (5,)), (0, 3, (5,))]
        for limit in range(8):
            self.assertEqual(trace(made, limit=limit), whole[:limit])
        loop = module(unit((TICK, ("jump", 0)), registers=0))
        self.assertEqual(trace(loop, fuel=100000, limit=10000), [(0, 0, ()), (0, 1, ())] * 5000)

    def test_calls_and_handlers(self):
        other = unit((TICK, ("raise", 2, 3)), parent=0, arguments=1, registers=2)
        start = unit((TICK, ("call", 1, 0, (("int", 8),), (), 0), END, ("put", R0), END), registers=2, regions=((1, 2, 3, 1, 0),))
        expected = [(0, 0, (0, 0)), (0, 1, (0, 0)), (1, 0, (8, 0)), (1, 1, (8, 0)), (0, 3, (3, 2)), (0, 4, (3, 2))]
        self.assertEqual(trace(module(start, other)), expected)

    def test_return_with_results(self):
        other = unit((TICK, ("return", (("int", 6), R0))), parent=0, arguments=1, results=2, registers=1)
        start = unit((TICK, ("call", 1, 0, (("int", 8),), (2, 0), 0), END), registers=3)
        expected = [(0, 0, (0, 0, 0)), (0, 1, (0, 0, 0)), (1, 0, (8,)), (1, 1, (8,)), (0, 2, (8, 0, 6))]
        self.assertEqual(trace(module(start, other)), expected)

    def test_made_modules(self):
        for seed in range(500):
            made = make_module(seed)
            rng = random.Random(seed)
            inputs = [rng.choice(WORDS) for _ in range(rng.randint(0, 4))]
            before = parts(made), list(inputs)
            for fuel in (0, 2, 20):
                reference = Reference(made, inputs, fuel)
                reference.run()
                for limit in (10000, 7, 1):
                    self.assertEqual(trace(made, inputs, fuel, limit), reference.notes[:limit], seed)
            self.assertEqual((parts(made), inputs), before)


if __name__ == "__main__":
    unittest.main()
