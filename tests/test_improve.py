"""Points [61] to [64]: improved modules."""

import random
import unittest

from tests.modules import MAX, MIN, WORDS, main, make_module, module, parts, unit
from tests.programs import make_program
from tests.refcode import Reference
from windowada.checkdecl import check
from windowada.flow import reached
from windowada.improve import improve
from windowada.intervals import intervals
from windowada.lower import lower
from windowada.runcall import run_source
from windowada.runner import run_module
from windowada.wellformed import check_module

TICK, END = ("tick",), ("return", ())
R = [("reg", number) for number in range(8)]
I = {number: ("int", number) for number in range(-99, 99)}


def needed_checks(part):
    """The count of the checks of a unit that may stay: of a register, at an index with intervals that do not lie within."""
    many = 0
    for instruction, state in zip(part.code, intervals(part)):
        if instruction[0] == "check" and instruction[1][0] == "reg" and state is not None:
            low, high = state[instruction[1][1]]
            many += not (instruction[2] <= low and high <= instruction[3])
    return many


class ImproveTest(unittest.TestCase):

    def improved(self, made):
        """Returns the improved module and looks at all that does not depend on a run."""
        before = parts(made)
        better = improve(made)
        self.assertEqual(parts(made), before)
        self.assertIsNone(check_module(better))
        self.assertEqual((better.names, better.places), (made.names, made.places))
        self.assertEqual(len(better.units), len(made.units))
        for new, old in zip(better.units, made.units):
            for name in ("parent", "arguments", "results", "registers", "cells"):
                self.assertEqual(getattr(new, name), getattr(old, name))
            self.assertIs(type(new.code), tuple)
            self.assertIs(type(new.regions), tuple)
            self.shape(new, old)
        again = improve(better)
        self.assertEqual([(part.code, part.regions) for part in again.units], [(part.code, part.regions) for part in better.units])
        return better

    def shape(self, new, old):
        """Point [62]."""
        whole = reached(new)
        self.assertEqual(whole, tuple(range(len(new.code))))
        for index, (instruction, state) in enumerate(zip(new.code, intervals(new))):
            if instruction[0] == "branch":
                self.assertEqual(instruction[1][0], "reg")
            if instruction[0] == "jump":
                self.assertNotEqual(instruction[1], index + 1)
            if instruction[0] == "check":
                self.assertEqual(instruction[1][0], "reg")
                if state is not None:
                    low, high = state[instruction[1][1]]
                    self.assertFalse(instruction[2] <= low and high <= instruction[3], (index, new.code))
        for region in new.regions:
            self.assertIn(region[2], whole)
        self.assertLessEqual(len([part for part in new.code if part[0] == "check"]), needed_checks(old))

    def same_runs(self, made, better, inputs, fuel):
        old, new = Reference(made, inputs, fuel), Reference(better, inputs, fuel)
        expected = old.run()
        found = new.run()
        self.assertEqual(run_module(better, inputs, fuel=fuel), found)
        if expected[1] != ("fault",):
            self.assertEqual(found, expected)
            self.assertEqual(new.calls, old.calls)

    def code(self, *code, **more):
        """Returns code and regions of an improved main program, without its first tick and its return."""
        made = main(*code, **more)
        better = self.improved(made)
        for inputs in ([], [0, 1, 2], [5, -1, 0, 7], [1, 1, 1, 1, 1]):
            for fuel in range(8):
                self.same_runs(made, better, inputs, fuel)
        part = better.units[0]
        self.assertEqual(part.code[0], TICK)
        return part.code[1:-1] if part.code[-1] == END else part.code[1:], part.regions

    def expect(self, code, expected, **more):
        self.assertEqual(self.code(*code, **more), (tuple(expected), ()))

    def test_example_of_the_document(self):
        code = (("move", 0, I[6]), ("check", R[0], 1, 9, 0), ("mul", 1, R[0], I[7], 0), ("put", R[1]))
        self.expect(code, (code[0], code[2], code[3]))

    def test_needless_checks(self):
        get = ("get", 0, 0)
        check_it = ("check", R[0], 1, 9, 0)
        self.expect((get, check_it, ("put", R[0])), (get, check_it, ("put", R[0])))
        self.expect((get, check_it, check_it, ("check", R[0], 0, 9, 1), ("check", R[0], MIN, MAX, 1)), (get, check_it))
        stricter = ("check", R[0], 2, 9, 1)
        self.expect((get, check_it, stricter, check_it), (get, check_it, stricter))
        self.expect((get, check_it, ("add", 1, R[0], I[3], 0), ("check", R[1], 4, 12, 0)), (get, check_it, ("add", 1, R[0], I[3], 0)))
        kept = ("check", R[1], 4, 11, 0)
        self.expect((get, check_it, ("add", 1, R[0], I[3], 0), kept), (get, check_it, ("add", 1, R[0], I[3], 0), kept))
        self.expect((("check", R[0], 0, 0, 0), ("put", R[0])), (("put", R[0]),))

    def test_checks_of_numbers(self):
        self.expect((("check", I[5], 5, 5, 0), ("put", I[1])), (("put", I[1]),))
        self.expect((("check", I[5], 6, 9, 3), ("put", I[1])), (("raise", 0, 3),))

    def test_checks_that_never_hold(self):
        self.expect((("put", I[1]), ("check", R[0], 6, 9, 2), ("put", I[1])), (("put", I[1]), ("raise", 0, 2)))

    def test_branches(self):
        self.expect((("branch", I[0], 3), ("put", I[1]), ("put", I[2])), (("put", I[1]), ("put", I[2])))
        for word in (1, -1, 2):
            self.expect((("branch", I[word], 3), ("put", I[1]), ("put", I[2])), (("put", I[2]),))
        code = (("get", 0, 0), ("branch", R[0], 4), ("put", I[1]), ("put", I[2]))
        self.expect(code, code)
        # A loop without an end.
        made = module(unit((TICK, ("put", I[1]), ("branch", I[1], 0), END)))
        self.assertEqual(self.improved(made).units[0].code, (TICK, ("put", I[1]), ("jump", 0)))

    def test_jumps(self):
        self.expect((("jump", 2), ("put", I[1])), (("put", I[1]),))
        self.expect((("jump", 3), ("put", I[1]), ("put", I[2])), (("put", I[2]),))
        # A jump over jumps and needless checks.
        self.expect((("jump", 4), ("jump", 3), ("check", I[1], 1, 1, 0), ("put", I[2])), (("put", I[2]),))
        self.expect((("get", 0, 0), ("branch", R[0], 4), ("jump", 5), ("check", I[1], 1, 1, 0), ("put", I[2])), (("get", 0, 0), ("put", I[2])))

    def test_code_that_nothing_reaches(self):
        self.expect((("put", I[1]), END, ("put", I[2]), ("jump", 3)), (("put", I[1]),))
        self.expect((("raise", 1, 1), ("put", I[2])), (("raise", 1, 1),))
        self.expect((("again", I[1], I[1]), ("put", I[2])), (("again", I[1], I[1]),))
        made = module(unit((TICK, END, TICK, ("put", I[1]), ("jump", 2))))
        self.assertEqual(self.improved(made).units[0].code, (TICK, END))

    def test_regions(self):
        """What is left out moves the indexes of a region; a region that takes nothing is left out."""
        code = (("check", I[1], 1, 1, 0), ("get", 0, 0), ("check", I[1], 1, 1, 0), ("put", R[0]), END, ("check", I[1], 1, 1, 0), ("put", R[2]))
        better, regions = self.code(*code, regions=((2, 4, 6, 2, 3),))
        self.assertEqual((better, regions), ((("get", 0, 0), ("put", R[0]), END, ("put", R[2])), ((1, 2, 4, 2, 3),)))
        better, regions = self.code(("check", I[1], 1, 1, 0), ("put", R[0]), END, ("put", R[2]), regions=((1, 2, 4, 2, 3),))
        self.assertEqual((better, regions), ((("put", R[0]),), ()))
        # The handler of a needless check, and of code that nothing reaches.
        better, regions = self.code(("check", R[0], 0, 0, 1), ("put", R[0]), END, ("put", R[2]), END, ("get", 0, 0), regions=((1, 3, 4, 2, 3), (6, 7, 7, 2, 3)))
        self.assertEqual((better, regions), ((("put", R[0]),), ()))

    def test_an_entry_of_two_regions(self):
        code = (("get", 0, 0), ("put", R[0]), ("check", R[1], 0, 0, 0), END, ("put", R[2]))
        better, regions = self.code(*code, regions=((1, 2, 5, 2, 3), (3, 4, 5, 2, 3)))
        self.assertEqual(better, (("get", 0, 0), ("put", R[0]), END, ("put", R[2])))
        self.assertIn((1, 2, 4, 2, 3), regions)

    def test_operators_that_always_raise(self):
        for wrong in (
            ("div", 0, I[1], I[0], 2), ("mod", 0, I[1], I[0], 2), ("rem", 0, I[1], I[0], 2), ("neg", 0, ("int", MIN), 2),
            ("add", 0, ("int", MAX), I[1], 2), ("mul", 0, ("int", MAX), I[2], 2),
        ):
            better, _ = self.code(("put", I[1]), wrong, ("check", R[1], 3, 4, 0), ("put", I[2]))
            self.assertNotIn("check", [part[0] for part in better])
            better, _ = self.code(("put", I[1]), wrong, ("put", I[2]), END, ("put", R[2]), regions=((2, 3, 5, 2, 3),))
            self.assertNotIn(("put", I[2]), better)

    def test_calls_stay(self):
        """Also of units that do nothing, and with results that nobody reads."""
        other = unit((TICK, ("return", (I[1],))), parent=0, results=1)
        made = module(unit((TICK, ("call", 1, 0, (), (0,), 0), END)), other)
        self.assertEqual(parts(self.improved(made)), parts(made))

    def test_made_modules(self):
        for seed in range(1200):
            made = make_module(seed)
            better = self.improved(made)
            rng = random.Random(seed)
            for fuel in (0, 1, 3, 10, 40):
                inputs = [rng.choice(WORDS) for _ in range(rng.randint(0, 6))]
                self.same_runs(made, better, inputs, fuel)

    def test_lowered_programs(self):
        for seed in range(150):
            program = check(make_program(seed))
            made = lower(program)
            better = self.improved(made)
            for fuel in (0, 1, 2, 3, 5, 9, 20, 60, 300):
                self.assertEqual(run_module(better, [1, 5, -2], fuel=fuel), run_source(program, [1, 5, -2], fuel=fuel))
            self.same_runs(made, better, [1, 5, -2], 100)


if __name__ == "__main__":
    unittest.main()
