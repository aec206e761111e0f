"""Points [2], [26] and [41]: the operators over words."""

import fractions
import math
import unittest

from windowada.errors import AdaError, SourceError
from windowada.words import MAX, MIN, DivisionByZero, Overflow, absolute, arithmetic, compare, fits, negate

WORDS = (
    MIN, MIN + 1, MIN + 2, -1000000007, -65536, -65535, -46341, -46340, -10, -7, -3, -2, -1, 0, 1, 2, 3, 7, 10, 46340, 46341,
    65535, 65536, 1000000007, MAX - 1, MAX, MIN // 2, MAX // 2, MAX // 2 + 1,
)
DIVISIONS = ("/", "mod", "rem")


def exact(op, left, right):
    """Returns the exact result of an operator, worked out with fractions."""
    if op == "+":
        return left + right
    if op == "-":
        return left - right
    if op == "*":
        return left * right
    ratio = fractions.Fraction(left, right)
    if op == "/":
        return math.trunc(ratio)
    if op == "rem":
        return left - right * math.trunc(ratio)
    return left - right * math.floor(ratio)


class WordsTest(unittest.TestCase):

    def test_ends(self):
        self.assertEqual((MIN, MAX), (-2147483648, 2147483647))

    def test_fits(self):
        for number, expected in (
            (0, True), (MIN, True), (MAX, True), (MIN - 1, False), (MAX + 1, False), (10**100, False), (-10**100, False),
        ):
            self.assertIs(fits(number), expected)

    def test_every_operator(self):
        for op in ("+", "-", "*", *DIVISIONS):
            for left in WORDS:
                for right in WORDS:
                    if op in DIVISIONS and right == 0:
                        self.assertRaises(DivisionByZero, arithmetic, op, left, right)
                    elif not MIN <= exact(op, left, right) <= MAX:
                        self.assertRaises(Overflow, arithmetic, op, left, right)
                    else:
                        result = arithmetic(op, left, right)
                        self.assertEqual(result, exact(op, left, right), (op, left, right))
                        self.assertIs(type(result), int)

    def test_named_results(self):
        for op, left, right, result in (
            ("/", -7, 2, -3), ("rem", -7, 2, -1), ("mod", -7, 2, 1), ("mod", 7, -2, -1), ("rem", MIN, -1, 0), ("mod", MIN, -1, 0),
            ("/", 7, -2, -3), ("/", -7, -2, 3), ("rem", 7, -2, 1), ("rem", -7, -2, -1), ("mod", -7, -2, -1), ("mod", 7, 2, 1),
            ("mod", -6, 2, 0), ("mod", 6, -2, 0), ("/", 1, 2, 0), ("/", -1, 2, 0), ("mod", -1, MAX, MAX - 1),
            ("mod", 1, MIN, MIN + 1), ("mod", MIN, MAX, MAX - 1), ("rem", MIN, MAX, -1), ("/", MIN, MIN, 1), ("/", MAX, MIN, 0),
            ("*", 65536, -32768, MIN), ("*", 46341, 46340, 2147441940), ("-", -1, MAX, MIN), ("-", 0, MAX, MIN + 1), ("+", MIN, MAX, -1),
        ):
            self.assertEqual(arithmetic(op, left, right), result, (op, left, right))

    def test_overflow(self):
        for op, left, right in (
            ("+", MAX, 1), ("+", MIN, -1), ("-", MIN, 1), ("-", 0, MIN), ("-", MAX, -1), ("*", MIN, -1), ("*", 65536, 32768),
            ("*", MAX, MAX), ("/", MIN, -1),
        ):
            self.assertRaises(Overflow, arithmetic, op, left, right)

    def test_division_by_zero(self):
        for op in DIVISIONS:
            for left in (MIN, -1, 0, 1, MAX):
                self.assertRaises(DivisionByZero, arithmetic, op, left, 0)

    def test_negate_and_absolute(self):
        for word in WORDS:
            if word == MIN:
                self.assertRaises(Overflow, negate, word)
                self.assertRaises(Overflow, absolute, word)
            else:
                self.assertEqual(negate(word), -word)
                self.assertEqual(absolute(word), abs(word))

    def test_compare(self):
        for left in WORDS:
            for right in WORDS:
                row = [compare(op, left, right) for op in ("=", "/=", "<", "<=", ">", ">=")]
                self.assertEqual(row, [left == right, left != right, left < right, left <= right, left > right, left >= right])
                self.assertTrue(all(type(truth) is bool for truth in row))

    def test_errors(self):
        for error in (Overflow, DivisionByZero):
            self.assertTrue(issubclass(error, AdaError))
            self.assertFalse(issubclass(error, SourceError))
        self.assertFalse(issubclass(Overflow, DivisionByZero) or issubclass(DivisionByZero, Overflow))


if __name__ == "__main__":
    unittest.main()
