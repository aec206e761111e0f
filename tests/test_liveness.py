"""Point [65]: live registers."""

import unittest

from tests.modules import make_module, module, unit, unit_parts
from windowada.code import Unit, can_raise, followers, reads, region_of, writes
from windowada.liveness import live

TICK, END = ("tick",), ("return", ())
R = [("reg", number) for number in range(8)]


def naive_live(made):
    """The least sets, from empty ones on."""
    sets = [set() for _ in made.code]
    while True:
        changed = False
        for index, instruction in enumerate(made.code):
            new = set(reads(instruction))
            for target in followers(instruction, index):
                new |= sets[target] - set(writes(instruction))
            region = region_of(made, index)
            if region is not None and can_raise(instruction):
                new |= sets[region[2]] - set(region[3:])
            changed = changed or new != sets[index]
            sets[index] = new
        if not changed:
            return tuple(tuple(sorted(row)) for row in sets)


class LivenessTest(unittest.TestCase):

    def look(self, code, expected, **more):
        made = unit(code, **more)
        before = unit_parts(made)
        self.assertEqual(live(made), expected)
        self.assertEqual(naive_live(made), expected)
        self.assertEqual(unit_parts(made), before)

    def test_example_of_the_document(self):
        code = (("tick",), ("get", 0, 0), ("put", ("reg", 0)), ("put", ("reg", 1)), ("return", ()))
        self.assertEqual(live(Unit(-1, 0, 0, 2, 0, code, ())), ((1,), (1,), (0, 1), (1,), ()))

    def test_no_registers(self):
        self.look((TICK, END), ((), ()), registers=0)

    def test_an_instruction_that_writes_what_it_reads(self):
        self.look((TICK, ("add", 0, R[0], R[1], 0), ("put", R[0]), END), ((0, 1), (0, 1), (0,), ()))
        self.look((TICK, ("move", 1, R[0]), ("move", 0, R[1]), ("put", R[0]), END), ((0,), (0,), (1,), (0,), ()))
        self.look((TICK, ("load", 0, 0, 0, 1, R[0]), END), ((0,), (0,), ()), cells=1)

    def test_what_is_written_and_not_read(self):
        self.look((TICK, ("move", 0, R[1]), ("move", 0, R[2]), ("put", R[0]), END), ((1, 2), (1, 2), (2,), (0,), ()))

    def test_loops(self):
        code = (TICK, ("put", R[0]), ("move", 0, R[1]), ("branch", R[2], 0), ("put", R[3]), END)
        self.look(code, ((0, 1, 2, 3), (0, 1, 2, 3), (1, 2, 3), (0, 1, 2, 3), (3,), ()))
        inner = (TICK, ("move", 0, R[1]), TICK, ("add", 2, R[2], R[0], 0), ("branch", R[2], 2), ("branch", R[3], 0), END)
        self.look(inner, ((1, 2, 3), (1, 2, 3), (0, 1, 2, 3), (0, 1, 2, 3), (0, 1, 2, 3), (1, 2, 3), ()))

    def test_branches(self):
        code = (TICK, ("branch", R[0], 4), ("put", R[1]), END, ("put", R[2]), END)
        self.look(code, ((0, 1, 2), (0, 1, 2), (1,), (), (2,), ()))
        # What the operand is makes no difference.
        code = (TICK, ("branch", ("int", 1), 4), ("put", R[1]), END, ("put", R[2]), END)
        self.look(code, ((1, 2), (1, 2), (1,), (), (2,), ()))

    def test_calls_and_returns(self):
        other = unit((TICK, ("return", (R[0], R[1]))), parent=0, arguments=2, results=2)
        code = (TICK, ("call", 1, 0, (R[0], R[1]), (1, 2), 0), ("put", R[1]), ("put", R[2]), ("put", R[3]), END)
        made = module(unit(code), other).units
        self.assertEqual(live(made[0]), ((0, 1, 3), (0, 1, 3), (1, 2, 3), (2, 3), (3,), ()))
        self.assertEqual(live(made[1]), ((0, 1), (0, 1)))

    def test_entries(self):
        """The registers of the region are not live because of its entry, but all others are."""
        code = (TICK, ("get", 0, 0), ("put", R[1]), END, ("put", R[0]), ("put", R[2]), ("put", R[3]), END)
        self.look(code, ((1,), (1,), (1,), (), (0, 2, 3), (2, 3), (3,), ()))
        # An instruction that raises writes nothing, so that 0 is live ahead of the get.
        self.look(code, ((0, 1), (0, 1), (1,), (), (0, 2, 3), (2, 3), (3,), ()), regions=((1, 2, 4, 2, 3),))
        self.look(code, ((1, 2, 3), (1, 2, 3), (1,), (), (0, 2, 3), (2, 3), (3,), ()), regions=((0, 3, 4, 0, 1),))
        self.look(code, ((0, 1, 3), (0, 1, 3), (1,), (), (0, 2, 3), (2, 3), (3,), ()), regions=((1, 2, 4, 2, 1),))
        # The region does not hold an index that can raise.
        self.look(code, ((1,), (1,), (1,), (), (0, 2, 3), (2, 3), (3,), ()), regions=((2, 4, 4, 0, 1),))

    def test_registers_of_a_region_that_are_live_otherwise(self):
        code = (TICK, ("check", R[0], 0, 1, 0), ("put", R[2]), END, ("put", R[2]), END)
        self.look(code, ((0, 2), (0, 2), (2,), (), (2,), ()), regions=((1, 2, 4, 2, 3),))

    def test_the_first_region_is_taken(self):
        code = (TICK, ("raise", 0, 0), ("put", R[0]), END, ("put", R[1]), END)
        self.look(code, ((0,), (0,), (0,), (), (1,), ()), regions=((1, 2, 2, 2, 3), (0, 2, 4, 2, 3)))
        self.look(code, ((1,), (1,), (0,), (), (1,), ()), regions=((0, 2, 4, 2, 3), (1, 2, 2, 2, 3)))

    def test_code_that_nothing_reaches(self):
        code = (TICK, END, ("put", R[1]), ("put", R[0]), TICK, ("branch", R[2], 4), ("jump", 0))
        self.look(code, ((), (), (0, 1, 2), (0, 2), (2,), (2,), ()))

    def test_made_units(self):
        for seed in range(800):
            for made in make_module(seed).units:
                before = unit_parts(made)
                found = live(made)
                self.assertEqual(found, naive_live(made), seed)
                self.assertTrue(type(found) is tuple and all(type(row) is tuple for row in found))
                self.assertEqual(unit_parts(made), before)

    def test_long_code(self):
        """No recursion, and no work that grows with the square of the code."""
        code = (TICK, *[("put", R[index % 4]) for index in range(60000)], ("jump", 0))
        self.assertEqual(set(live(unit(code))), {(0, 1, 2, 3)})
        # Ways that go backward all the time.
        code = [TICK, ("jump", 39998)]
        for index in range(2, 40000, 2):
            code += [TICK, ("jump", index - 2) if index > 2 else ("return", (R[3],))]
        self.assertEqual(set(live(unit(code, parent=0, results=1))), {(3,)})


if __name__ == "__main__":
    unittest.main()
