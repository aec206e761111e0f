"""Points [26], [41] and [72]: the arithmetic of the processor."""

import unittest

from windowada.alu import Fault, compute, high_word, low_word
from windowada.errors import AdaError, SourceError
from windowada.words import DivisionByZero, Overflow

MIN, MAX = -2147483648, 2147483647
WORDS = (MIN, MIN + 1, -65536, -7, -2, -1, 0, 1, 2, 3, 7, 46341, 65536, MAX - 1, MAX)


def quotient(left, right):
    """Rounded toward zero."""
    return abs(left) // abs(right) * (1 if (left < 0) == (right < 0) else -1)


def modulus(left, right):
    """Counts from the remainder to the sign of the right side."""
    rest = left - right * quotient(left, right)
    return rest + right if rest != 0 and (rest < 0) != (right < 0) else rest


EXACT = {
    "add": lambda left, right: left + right, "sub": lambda left, right: left - right, "mul": lambda left, right: left * right,
    "div": quotient, "mod": modulus, "rem": lambda left, right: left - right * quotient(left, right),
}


class AluTest(unittest.TestCase):

    def test_operators(self):
        for name, exact in EXACT.items():
            for left in WORDS:
                for right in WORDS:
                    if right == 0 and name in ("div", "mod", "rem"):
                        self.assertRaises(DivisionByZero, compute, name, left, right)
                    elif MIN <= exact(left, right) <= MAX:
                        self.assertEqual(compute(name, left, right), exact(left, right), (name, left, right))
                    else:
                        self.assertRaises(Overflow, compute, name, left, right)

    def test_some_results_as_numbers(self):
        for name, left, right, result in (
            ("div", -7, 2, -3), ("div", 7, -2, -3), ("div", -7, -2, 3), ("rem", -7, 2, -1), ("rem", 7, -2, 1), ("mod", -7, 2, 1),
            ("mod", 7, -2, -1), ("mod", 6, -2, 0), ("mod", -8, 2, 0), ("rem", MIN, -1, 0), ("mod", MIN, -1, 0), ("add", MAX, 0, MAX),
            ("sub", MIN, 0, MIN), ("mul", MIN, 1, MIN), ("div", MIN, 1, MIN), ("add", MIN, MAX, -1), ("mod", MIN, MAX, MAX - 1),
        ):
            self.assertEqual(compute(name, left, right), result, (name, left, right))

    def test_ends(self):
        for name, left, right in (("add", MAX, 1), ("add", MIN, -1), ("sub", MIN, 1), ("sub", 0, MIN), ("mul", MIN, -1), ("mul", 65536, 32768), ("div", MIN, -1)):
            self.assertRaises(Overflow, compute, name, left, right)

    def test_comparisons(self):
        for left in WORDS:
            for right in WORDS:
                for name, holds in (("less", left < right), ("equal", left == right)):
                    result = compute(name, left, right)
                    self.assertEqual(result, 1 if holds else 0)
                    self.assertIs(type(result), int)

    def test_neither_error_is_the_other(self):
        self.assertFalse(issubclass(Overflow, DivisionByZero))
        self.assertFalse(issubclass(DivisionByZero, Overflow))
        for left in (MIN, 0, 5):
            for name in ("div", "mod", "rem"):
                with self.assertRaises(AdaError) as caught:
                    compute(name, left, 0)
                self.assertIs(type(caught.exception), DivisionByZero)
        with self.assertRaises(AdaError) as caught:
            compute("div", MIN, -1)
        self.assertIs(type(caught.exception), Overflow)

    def test_fault(self):
        self.assertTrue(issubclass(Fault, AdaError))
        self.assertFalse(issubclass(Fault, (SourceError, Overflow, DivisionByZero)))
        self.assertRaises(Fault, self.fail_with_fault)

    def fail_with_fault(self):
        raise Fault("no such address")

    def test_high_word(self):
        for n, word in ((0, 0), (1, 2048), (-1, -2048), (5, 10240), (-1048576, MIN), (1048575, MAX - 2047), (1048574, MAX - 4095)):
            self.assertEqual(high_word(n), word)

    def test_low_word(self):
        for word, m, result in (
            (0, 0, 0), (0, 2047, 2047), (2047, 0, 0), (2048, 0, 2048), (2049, 5, 2053), (-1, 0, -2048), (-1, 2047, -1), (-2048, 0, -2048),
            (-2049, 1, -4095), (-2047, 3, -2045), (MIN, 0, MIN), (MIN, 2047, MIN + 2047), (MAX, 0, MAX - 2047), (MAX, 2047, MAX), (MIN + 2047, 7, MIN + 7),
        ):
            self.assertEqual(low_word(word, m), result)

    def test_high_and_low_together(self):
        for word in (*WORDS, 2047, 2048, -2047, -2048, -2049, 123456789, -123456789):
            self.assertEqual(low_word(high_word(word // 2048), word % 2048), word)


if __name__ == "__main__":
    unittest.main()
