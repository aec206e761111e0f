"""Point [79]: the instructions that bring a word into a register."""

import random
import unittest

from windowada.decode import decode
from windowada.encode import encode
from windowada.moves import constant

MIN, MAX = -2147483648, 2147483647
SHORT = (-16384, -16383, -2048, -1, 0, 1, 5, 2047, 2048, 4096, 16382, 16383)
LONG = (
    -16385, 16384, MIN, MIN + 1, MIN + 2047, MIN + 2048, MAX, MAX - 1, MAX - 2047, MAX - 2048, 2048 * 8, 2048 * 9, -2048 * 9, 2048 * 1000,
    2048 * -1000, 65535, 65536, -65536, -65537, 123456789, -123456789, 20480 - 1, 20480, -20480, -20481, 1048576, -1048577,
)


def done(instructions, registers):
    """Returns the registers behind some instructions, which are add, high and low alone."""
    registers = list(registers)
    for name, target, *parts in instructions:
        if name == "add":
            a, (kind, number) = parts
            word = registers[a] + (number if kind == "int" else registers[number])
        elif name == "high":
            word = parts[0] * 2048
        else:
            a, m = parts
            word = registers[a] - registers[a] % 2048 + m
        if target != 0:
            registers[target] = word
    return registers


class ConstantTest(unittest.TestCase):

    def look(self, target, word):
        instructions = constant(target, word)
        self.assertIs(type(instructions), list)
        for instruction in instructions:
            self.assertEqual(decode(encode(instruction)), instruction)
        before = [0, *range(1000, 1031)]
        expected = [word if number == target else before[number] for number in range(32)]
        self.assertEqual(done(instructions, before), expected)
        if -16384 <= word <= 16383:
            self.assertEqual(instructions, [("add", target, 0, ("int", word))])
        else:
            self.assertEqual([instruction[0] for instruction in instructions], ["high", "low"])

    def test_words(self):
        for word in (*SHORT, *LONG):
            for target in (1, 2, 8, 15, 16, 30, 31):
                self.look(target, word)

    def test_each_target(self):
        for target in range(1, 32):
            for word in (7, 16384, MIN, MAX):
                self.look(target, word)

    def test_any_words(self):
        rng = random.Random(3)
        for _ in range(2000):
            self.look(rng.randint(1, 31), rng.choice((rng.randint(MIN, MAX), rng.randint(-40000, 40000))))


if __name__ == "__main__":
    unittest.main()
