"""Points [13] to [15], [17], [32] and [33] as far as expressions go."""

import unittest

from tests.helpers import SourceCase, strip_places
from windowada.declarations import parse
from windowada.errors import ParseError, ScanError, TooLarge
from windowada.expressions import depth, parse_expression

BINARY = ("and", "or", "xor", "and then", "or else", "=", "/=", "<", "<=", ">", ">=", "+", "-", "*", "/", "mod", "rem")
GROUPS = (
    ("and",), ("or",), ("xor",), ("and then",), ("or else",),
    ("=", "/=", "<", "<=", ">", ">="), ("+", "-"), ("*", "/", "mod", "rem"),
)


def name(letter):
    return ("name", letter, (0, 0))


def binary(operator, left, right):
    return ("binary", operator, left, right, (0, 0))


def unary(operator, operand):
    return ("unary", operator, operand, (0, 0))


def tree(text):
    return strip_places(parse_expression(text))


class ExpressionsTest(SourceCase):

    def assert_no_expression(self, text):
        self.assert_parse_error(ParseError, text, parse_expression)

    def test_example(self):
        self.assertEqual(parse_expression("- a * (2)"), (
            "binary", "*", ("unary", "-", ("name", "a", (1, 3)), (1, 1)), ("number", 2, (1, 8)), (1, 5),
        ))

    def test_primaries(self):
        self.assertEqual(parse_expression("07"), ("number", 7, (1, 1)))
        self.assertEqual(parse_expression("true"), ("truth", True, (1, 1)))
        self.assertIs(parse_expression("false")[1], False)
        self.assertEqual(parse_expression("\n a1"), ("name", "a1", (2, 2)))
        self.assertEqual(parse_expression("a ' first"), ("first", "a", (1, 1)))
        self.assertEqual(parse_expression("integer'last"), ("last", "integer", (1, 1)))
        self.assertEqual(parse_expression("first'last"), ("last", "first", (1, 1)))
        self.assertEqual(parse_expression(" f (1)"), ("apply", "f", (("number", 1, (1, 5)),), (1, 2)))
        self.assertEqual(parse_expression("f(a,(b) , c(2))"), ("apply", "f", (
            ("name", "a", (1, 3)), ("name", "b", (1, 6)), ("apply", "c", (("number", 2, (1, 13)),), (1, 11)),
        ), (1, 1)))

    def test_each_operator_with_its_place(self):
        for operator in BINARY:
            self.assertEqual(parse_expression("a\n  " + operator + " b"), (
                "binary", operator, ("name", "a", (1, 1)), ("name", "b", (2, 4 + len(operator))), (2, 3),
            ))
        for operator in ("-", "abs", "not"):
            self.assertEqual(parse_expression(" " + operator + " b"), (
                "unary", operator, ("name", "b", (1, 3 + len(operator))), (1, 2),
            ))

    def test_operators_of_two_words(self):
        for text in ("a and\n  then b", "a and--x\nthen b"):
            self.assertEqual(tree(text), binary("and then", name("a"), name("b")))
        self.assertEqual(parse_expression("a  or   else b"), (
            "binary", "or else", ("name", "a", (1, 1)), ("name", "b", (1, 14)), (1, 4),
        ))

    def test_groups_associate_to_the_left(self):
        for group in GROUPS[:5] + GROUPS[6:]:
            for first in group:
                for second in group:
                    self.assertEqual(
                        tree(f"a {first} b {second} c {first} d"),
                        binary(first, binary(second, binary(first, name("a"), name("b")), name("c")), name("d")),
                    )

    def test_which_group_binds_closer(self):
        for low in GROUPS[:5]:
            for high in GROUPS[5:]:
                self.assert_binds(low, high)
        self.assert_binds(GROUPS[5], GROUPS[6])
        self.assert_binds(GROUPS[5], GROUPS[7])
        self.assert_binds(GROUPS[6], GROUPS[7])

    def assert_binds(self, low, high):
        for first in low:
            for second in high:
                whole = binary(first, name("a"), binary(second, name("b"), name("c")))
                self.assertEqual(tree(f"a {first} b {second} c"), whole)
                whole = binary(first, binary(second, name("a"), name("b")), name("c"))
                self.assertEqual(tree(f"a {second} b {first} c"), whole)

    def test_unary_operators_bind_closest(self):
        for operator in ("-", "abs", "not"):
            for other in BINARY:
                self.assertEqual(
                    tree(f"{operator} a {other} {operator} b"),
                    binary(other, unary(operator, name("a")), unary(operator, name("b"))),
                )
                self.assertEqual(tree(f"{operator} (a {other} b)"), unary(operator, binary(other, name("a"), name("b"))))
        self.assertEqual(tree("- - not abs a"), unary("-", unary("-", unary("not", unary("abs", name("a"))))))

    def test_brackets_only_group(self):
        self.assertEqual(parse_expression("((a))"), ("name", "a", (1, 3)))
        self.assertEqual(parse_expression("(a + b)"), (
            "binary", "+", ("name", "a", (1, 2)), ("name", "b", (1, 6)), (1, 4),
        ))
        self.assertEqual(tree("a - (b - c)"), binary("-", name("a"), binary("-", name("b"), name("c"))))
        self.assertEqual(tree("(a < b) < c"), binary("<", binary("<", name("a"), name("b")), name("c")))
        self.assertEqual(tree("(a or b) and c"), binary("and", binary("or", name("a"), name("b")), name("c")))

    def test_two_relations_side_by_side(self):
        for first in GROUPS[5]:
            for second in GROUPS[5]:
                self.assert_no_expression(f"a {first} b @{second} c")
        self.assert_no_expression("a = b and c < d @= e")

    def test_unlike_logical_operators_side_by_side(self):
        for first in ("and", "or", "xor", "and then", "or else"):
            for second in ("and", "or", "xor", "and then", "or else"):
                if first == second:
                    parse_expression(f"a {first} b {second} c")
                elif first.split()[0] != second.split()[0]:
                    self.assert_no_expression(f"a {first} b @{second} c")
                    self.assert_no_expression(f"a {first} b {first} c @{second} d")
        self.assert_no_expression("a and b and @then c")
        self.assert_no_expression("a and then b and @c")
        self.assert_no_expression("a or b or @else c")
        self.assert_no_expression("a or else b or @c")

    def test_first_token_that_does_not_fit(self):
        for text in (
            "@", "\n  @", "a @b", "a @:= 1", "(a@", "(a @; b)", "a @)", "f(@)", "f(a, @)", "f(a @b)", "a + @", "@+ a",
            "a'@b", "a'@1", "a'@", "a'@range", "a'first@'last", "a'first @(1)", "1 @(2)", "1@'first", "f(1)@'first",
            "f(1) @(2)", "true @true", "a and @", "a and then @", "a or @and b", "not @", "a mod @rem b", "@is", "- @* a",
            "a = @= b", "a @=> b", "(@)", "a @..", "@'first", "a @not b", "a @abs b", "@..", "@then",
            "a and not @or", "(a@, b)", "@put", "f(a@; b)", "@null", "a @| b", "@get(a)",
        ):
            self.assert_no_expression(text)

    def test_scan_error_comes_first(self):
        self.assert_parse_error(ScanError, "a b c @A", parse_expression)
        self.assert_parse_error(ScanError, "(" * 20 + "@a_", parse_expression)

    def test_depth_of_expressions(self):
        for text, expected in (
            ("1", 1), ("true", 1), ("a", 1), ("a'first", 1), ("((a))", 1), ("-a", 2), ("a + b", 2), ("f(a)", 2),
            ("f(a, b + c)", 3), ("-(-(-a))", 4), ("a + b + c", 3), ("a + (b + c * d)", 4), ("f(f(f(f(f(1)))))", 6),
            ("not a and b", 3), ("(a + b) * (c - d)", 3), ("f(1, -2, 3)", 3),
        ):
            self.assertEqual(depth(parse_expression(text)), expected, text)

    def test_depth_up_to_50(self):
        for wrap in (
            lambda inner: ("unary", "-", inner, (1, 1)),
            lambda inner: ("binary", "+", ("number", 1, (1, 1)), inner, (1, 1)),
            lambda inner: ("binary", "+", inner, ("number", 1, (1, 1)), (1, 1)),
            lambda inner: ("apply", "f", (("number", 1, (1, 1)), inner), (1, 1)),
        ):
            expression = ("name", "a", (1, 1))
            for deep in range(2, 51):
                expression = wrap(expression)
                self.assertEqual(depth(expression), deep)

    def test_bound_of_depth(self):
        for good in (
            "1+1+1+1+1+1", "1*1*1*1*1*1", "- - - - -1", "not not not not not a", "f(f(f(f(f(1)))))", "1+(1+(1+(1+(1+1))))",
            "a and b and c and d and e and g", "f(1,2+(3+(4+(5+6))))", "-(-(-(-(-a))))", "f(-f(-f(1)))", "abs f(1+1+1+1)",
            "1 + 2 * 3 - 4 < 5 and true",
        ):
            self.assertEqual(depth(parse_expression(good)), 6, good)
        for bad in (
            "1+1+1+1+1+1+1", "1*1*1*1*1*1*1", "- - - - - -1", "not not not not not not a", "f(f(f(f(f(f(1))))))",
            "1+(1+(1+(1+(1+(1+1)))))", "a and b and c and d and e and g and h", "f(1,2+(3+(4+(5+(6+7)))))",
            "-(-(-(-(-(-a)))))", "f(-f(-f(-1)))", "(1+1+1+1+1+1)=1", "f(1+1+1+1+1+1)", "abs f(1+1+1+1+1)",
            "f(" * 900 + "1" + ")" * 900, "-(" * 900 + "1" + ")" * 900, "1" + "+1" * 1900, "- " * 1900 + "1",
        ):
            self.assert_error(TooLarge, None, parse_expression, bad)

    def test_bound_of_brackets(self):
        for text in ("a", "a + b", "f(a)", "a'first", "-a", "true"):
            parse_expression("(" * 12 + text + ")" * 12)
            self.assert_error(TooLarge, None, parse_expression, "(" * 13 + text + ")" * 13)
        parse_expression("(" * 12 + "a" + ")" * 12 + " + " + "(" * 12 + "a" + ")" * 12)
        parse_expression("f(" + "(" * 12 + "a" + ")" * 12 + ", " + "(" * 12 + "a" + ")" * 12 + ")")
        # Those of calls do not count, but those around a call do.
        parse_expression("(" * 6 + "f(" + "(" * 6 + "a" + ")" * 13)
        self.assert_error(TooLarge, None, parse_expression, "(" * 7 + "f(" + "(" * 6 + "a" + ")" * 14)
        self.assert_error(TooLarge, None, parse_expression, "(" * 6 + "1 + " + "(" * 6 + "1 + (1)" + ")" * 12)
        self.assert_error(TooLarge, None, parse_expression, "(" * 1900 + "1" + ")" * 1900)

    def test_parse_error_comes_before_too_large(self):
        for text in (
            "(" * 1900 + "@", "(" * 1900 + "1" + ")" * 1901, "- " * 1900 + "@", "f(" * 1500 + "@", "1+1+1+1+1+1+1 @1",
            "(" * 13 + "a" + ")" * 13 + " @a", "not " * 900 + "@)", "1" + "+1" * 1900 + "@)",
        ):
            if "@" in text:
                self.assert_no_expression(text)
            else:
                self.assert_error(ParseError, (1, len(text)), parse_expression, text)

    def test_no_program_is_an_expression(self):
        text = "procedure p is begin null; end;"
        parse(text)
        self.assert_no_expression("@" + text)


if __name__ == "__main__":
    unittest.main()
