"""Points [47] to [50] and [53]: units, modules and what their instructions read, write and lead to."""

import unittest

from tests.modules import unit
from windowada.code import Module, Unit, can_raise, followers, operands, reads, region_of, writes

R0, R1, R2, R7, I5, I9 = ("reg", 0), ("reg", 1), ("reg", 2), ("reg", 7), ("int", 5), ("int", -9)

# Each instruction with its operands, the registers that it reads and writes, and whether it can raise.
TABLE = (
    (("tick",), (), (), (), False),
    (("move", 3, R1), (R1,), (1,), (3,), False),
    (("move", 3, I5), (I5,), (), (3,), False),
    (("neg", 2, R2, 0), (R2,), (2,), (2,), True),
    (("abs", 2, I9, 4), (I9,), (), (2,), True),
    (("add", 0, R1, R2, 3), (R1, R2), (1, 2), (0,), True),
    (("sub", 0, R2, R1, 3), (R2, R1), (2, 1), (0,), True),
    (("mul", 0, R7, R7, 3), (R7, R7), (7, 7), (0,), True),
    (("div", 5, I5, R0, 3), (I5, R0), (0,), (5,), True),
    (("mod", 5, R0, I5, 3), (R0, I5), (0,), (5,), True),
    (("rem", 5, I5, I9, 3), (I5, I9), (), (5,), True),
    (("less", 1, R2, R0), (R2, R0), (2, 0), (1,), False),
    (("equal", 1, R0, R0), (R0, R0), (0, 0), (1,), False),
    (("check", R7, -1, 6, 2), (R7,), (7,), (), True),
    (("check", I5, -1, 6, 2), (I5,), (), (), True),
    (("load", 4, 1, 2, 3, R1), (R1,), (1,), (4,), False),
    (("load", 4, 1, 2, 3, I5), (I5,), (), (4,), False),
    (("store", 1, 2, 3, R2, R1), (R2, R1), (2, 1), (), False),
    (("store", 1, 2, 3, I5, R1), (I5, R1), (1,), (), False),
    (("jump", 6), (), (), (), False),
    (("branch", R7, 6), (R7,), (7,), (), False),
    (("branch", I5, 6), (I5,), (), (), False),
    (("call", 2, 1, (), (), 0), (), (), (), True),
    (("call", 2, 1, (R1, I5, R0, R1), (4, 0, 3), 0), (R1, I5, R0, R1), (1, 0, 1), (4, 0, 3), True),
    (("return", ()), (), (), (), False),
    (("return", (R2, I5, R2, R0)), (R2, I5, R2, R0), (2, 2, 0), (), False),
    (("raise", 1, 2), (), (), (), True),
    (("again", R1, R0), (R1, R0), (1, 0), (), True),
    (("again", I5, R0), (I5, R0), (0,), (), True),
    (("put", R1), (R1,), (1,), (), False),
    (("put", I9), (I9,), (), (), False),
    (("get", 6, 2), (), (), (6,), True),
)
LEAVING = ("return", "raise", "again")


class CodeTest(unittest.TestCase):

    def test_classes(self):
        made = Unit(-1, 2, 1, 5, 3, (("tick",), ("return", ())), ((0, 1, 1, 0, 1),))
        self.assertEqual((made.parent, made.arguments, made.results, made.registers, made.cells), (-1, 2, 1, 5, 3))
        self.assertEqual((made.code, made.regions), ((("tick",), ("return", ())), ((0, 1, 1, 0, 1),)))
        whole = Module((made,), ("a", "b"), ((1, 2),))
        self.assertEqual((whole.units, whole.names, whole.places), ((made,), ("a", "b"), ((1, 2),)))

    def test_operands_and_reads(self):
        for instruction, its_operands, its_reads, _, _ in TABLE:
            self.assertEqual(operands(instruction), its_operands, instruction)
            self.assertEqual(reads(instruction), its_reads, instruction)

    def test_writes(self):
        for instruction, _, _, its_writes, _ in TABLE:
            self.assertEqual(writes(instruction), its_writes, instruction)

    def test_can_raise(self):
        for instruction, _, _, _, raises in TABLE:
            self.assertIs(can_raise(instruction), raises, instruction)

    def test_followers(self):
        for instruction, _, _, _, _ in TABLE:
            if instruction[0] in LEAVING:
                expected = ()
            elif instruction[0] == "jump":
                expected = (6,)
            elif instruction[0] == "branch":
                expected = (4, 6)
            else:
                expected = (4,)
            self.assertEqual(followers(instruction, 3), expected, instruction)

    def test_followers_of_jumps_and_branches(self):
        self.assertEqual(followers(("jump", 1), 8), (1,))
        self.assertEqual(followers(("jump", 9), 8), (9,))
        for operand in (R0, ("int", 0), ("int", 1)):
            self.assertEqual(followers(("branch", operand, 0), 8), (0, 9))
            self.assertEqual(followers(("branch", operand, 8), 8), (8, 9))
            self.assertEqual(followers(("branch", operand, 9), 8), (9,))
            self.assertEqual(followers(("branch", operand, 10), 8), (9, 10))

    def test_region_of(self):
        code = [("tick",)] * 9 + [("return", ())]
        self.assertIsNone(region_of(unit(code), 0))
        late, early, inner = (4, 8, 9, 0, 1), (1, 6, 7, 2, 3), (5, 6, 6, 1, 0)
        made = unit(code, regions=(late, early, inner))
        expected = [None, early, early, early, late, late, late, late, None, None]
        self.assertEqual([region_of(made, index) for index in range(10)], expected)
        made = unit(code, regions=(inner, early, late))
        expected = [None, early, early, early, early, inner, late, late, None, None]
        self.assertEqual([region_of(made, index) for index in range(10)], expected)
        made = unit(code, regions=((0, 1, 1, 0, 1),))
        self.assertEqual([region_of(made, index) for index in range(3)], [(0, 1, 1, 0, 1), None, None])


if __name__ == "__main__":
    unittest.main()
