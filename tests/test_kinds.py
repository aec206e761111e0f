"""Points [20] and [38]: the kinds of operators."""

import unittest

from windowada.kinds import binary_kind, unary_kind

I, B = "integer", "boolean"


class KindsTest(unittest.TestCase):

    def test_one_operand(self):
        for operator, operand, result in (
            ("-", I, I), ("-", B, None), ("abs", I, I), ("abs", B, None), ("not", B, B), ("not", I, None),
        ):
            self.assertEqual(unary_kind(operator, operand), result)

    def test_two_operands(self):
        for operators, row in (
            ("+ - * / mod rem", (I, None, None, None)),
            ("< <= > >=", (B, None, None, None)),
            ("= /=", (B, None, None, B)),
            ("and or xor", (None, None, None, B)),
        ):
            for operator in operators.split():
                self.assert_row(operator, row)
        for operator in ("and then", "or else"):
            self.assert_row(operator, (None, None, None, B))

    def assert_row(self, operator, row):
        pairs = ((I, I), (I, B), (B, I), (B, B))
        self.assertEqual(tuple(binary_kind(operator, left, right) for left, right in pairs), row, operator)


if __name__ == "__main__":
    unittest.main()
