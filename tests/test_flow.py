"""Point [59], with points [50] and [53]: the ways through the code of a unit."""

import unittest

from tests.modules import make_module, module, unit, unit_parts
from tests.test_code import TABLE
from windowada.code import Unit, can_raise, followers, region_of
from windowada.flow import edges, reached

TICK, END, R0, PUT = ("tick",), ("return", ()), ("reg", 0), ("put", ("reg", 0))


def naive_edges(made):
    """The ways as the point tells them."""
    ways = []
    for index, instruction in enumerate(made.code):
        onward = set(followers(instruction, index))
        region = region_of(made, index)
        if can_raise(instruction) and region is not None:
            onward.add(region[2])
        ways.append(tuple(sorted(onward)))
    return tuple(ways)


def naive_reached(made):
    """The least set that holds 0 and all that follows."""
    found = {0}
    while True:
        more = found | {target for index in found for target in naive_edges(made)[index]}
        if more == found:
            return tuple(sorted(found))
        found = more


class FlowTest(unittest.TestCase):

    def test_each_instruction(self):
        """At index 3, with and without a region around it."""
        for instruction, _, _, _, raises in TABLE:
            code = (TICK, TICK, TICK, instruction, TICK, TICK, TICK, END)
            if instruction[0] in ("return", "raise", "again"):
                onward = ()
            elif instruction[0] == "jump":
                onward = (6,)
            elif instruction[0] == "branch":
                onward = (4, 6)
            else:
                onward = (4,)
            others = ((1,), (2,), (3,), onward, (5,), (6,), (7,), ())
            self.assertEqual(edges(unit(code)), others, instruction)
            for region in ((0, 3, 5, 0, 1), (4, 5, 5, 0, 1)):
                self.assertEqual(edges(unit(code, regions=(region,))), others, instruction)
            for region in ((0, 4, 5, 0, 1), (3, 4, 5, 0, 1), (3, 5, 5, 0, 1)):
                taken = tuple(sorted({*onward, 5})) if raises else onward
                self.assertEqual(edges(unit(code, regions=(region,)))[3], taken, instruction)
            # An entry that is also the next index stands there once.
            taken = tuple(sorted({*onward, 4})) if raises else onward
            self.assertEqual(edges(unit(code, regions=((3, 4, 4, 0, 1),)))[3], taken, instruction)

    def test_branches(self):
        code = (TICK, ("branch", R0, 0), ("branch", R0, 3), ("branch", ("int", 0), 5), ("branch", ("int", 1), 0), END)
        self.assertEqual(edges(unit(code)), ((1,), (0, 2), (3,), (4, 5), (0, 5), ()))

    def test_the_first_region_is_taken(self):
        code = (TICK, ("get", 0, 0), ("get", 0, 0), ("get", 0, 0), ("get", 0, 0), TICK, TICK, END)
        regions = ((2, 4, 5, 0, 1), (1, 3, 6, 0, 1), (1, 5, 7, 0, 1))
        self.assertEqual(edges(unit(code, regions=regions)), ((1,), (2, 6), (3, 5), (4, 5), (5, 7), (6,), (7,), ()))
        self.assertEqual(edges(unit(code, regions=regions[::-1])), ((1,), (2, 7), (3, 7), (4, 7), (5, 7), (6,), (7,), ()))

    def test_reached(self):
        for made, expected in (
            (unit((TICK, END)), (0, 1)),
            (unit((TICK, END, PUT, END)), (0, 1)),
            (unit((TICK, ("jump", 3), PUT, END)), (0, 1, 3)),
            (unit((TICK, ("raise", 0, 0), PUT, END)), (0, 1)),
            (unit((TICK, ("again", R0, R0), PUT, END)), (0, 1)),
            (unit((TICK, ("branch", ("int", 1), 4), PUT, END, END)), (0, 1, 2, 3, 4)),
            # A circle that nothing leads to, and a jump backward out of what nothing reaches.
            (unit((TICK, END, TICK, ("jump", 2), ("jump", 0))), (0, 1)),
            (unit((TICK, ("jump", 4), TICK, END, PUT, ("jump", 2), END)), (0, 1, 2, 3, 4, 5)),
            # An entry alone reaches the code behind a return.
            (unit((TICK, ("raise", 0, 0), PUT, PUT, END), regions=((1, 2, 3, 0, 1),)), (0, 1, 3, 4)),
            (unit((TICK, ("check", R0, 0, 1, 0), END, PUT, END), regions=((1, 2, 3, 0, 1),)), (0, 1, 2, 3, 4)),
            # A region over what cannot raise, or over what is not reached.
            (unit((TICK, PUT, END, PUT, END), regions=((0, 3, 3, 0, 1),)), (0, 1, 2)),
            (unit((TICK, END, ("raise", 0, 0), PUT, END), regions=((2, 3, 3, 0, 1),)), (0, 1)),
            # The region of a handler's code.
            (unit((TICK, ("raise", 0, 0), ("raise", 1, 0), END), regions=((1, 2, 2, 0, 1), (2, 3, 3, 0, 1))), (0, 1, 2, 3)),
        ):
            self.assertEqual(reached(made), expected)

    def test_kinds_of_the_results(self):
        made = make_module(3).units[0]
        self.assertIs(type(edges(made)), tuple)
        self.assertTrue(all(type(row) is tuple for row in edges(made)))
        self.assertIs(type(reached(made)), tuple)

    def test_made_units(self):
        for seed in range(600):
            for made in make_module(seed).units:
                before = unit_parts(made)
                self.assertEqual(edges(made), naive_edges(made))
                self.assertEqual(reached(made), naive_reached(made))
                self.assertEqual(unit_parts(made), before)

    def test_many_regions_over_long_code(self):
        """The work does not grow with the regions times the instructions."""
        size = 100000
        code = (TICK, *[("get", 0, 0)] * (size - 2), END)
        regions = tuple((number, size - 2000 + number, size - 1, 0, 1) for number in range(2000))
        made = unit(code, regions=regions)
        self.assertEqual(edges(made)[5], (6, size - 1))
        self.assertEqual(len(reached(made)), size)
        self.assertEqual(module(made).units[0].code, code)

    def test_long_jumps(self):
        """No recursion: a chain of jumps through all of the code."""
        code = (TICK, *[("jump", index + 1) for index in range(1, 50000)], END)
        self.assertEqual(len(reached(Unit(-1, 0, 0, 0, 0, code, ()))), 50001)


if __name__ == "__main__":
    unittest.main()
