"""Points [10], [11], [12] and [31]: tokens."""

import unittest

from tests.helpers import SourceCase
from windowada.declarations import parse
from windowada.errors import ScanError, TooLarge
from windowada.expressions import parse_expression
from windowada.tokens import scan

WORDS = (
    "abs and array begin case constant declare else elsif end exception exit false for function get if in is loop "
    "mod not null of or others out procedure put raise range rem return reverse subtype then true type when while xor"
).split()
SIGNS = ":= => .. /= <= >= ( ) , : ; ' | + - * / = < >".split()


class TokensTest(SourceCase):

    def assert_scan_error(self, text):
        self.assert_parse_error(ScanError, text, scan)

    def kinds(self, text):
        return [token[:2] for token in scan(text)[:-1]]

    def test_example(self):
        self.assertEqual(scan("x1 :=\n 07;--end"), [
            ("name", "x1", 1, 1), ("sign", ":=", 1, 4), ("number", 7, 2, 2), ("sign", ";", 2, 4), ("end", "", 2, 10),
        ])

    def test_result_is_a_list_of_tuples(self):
        tokens = scan("a 1")
        self.assertIs(type(tokens), list)
        self.assertTrue(all(type(token) is tuple for token in tokens))
        self.assertIs(type(tokens[1][1]), int)

    def test_each_reserved_word(self):
        for word in WORDS:
            self.assertEqual(scan(word), [("word", word, 1, 1), ("end", "", 1, len(word) + 1)])
            for name in (word + "1", word + "_a", "a" + word, word + "z"):
                self.assertEqual(self.kinds(name), [("name", name)])

    def test_names_that_are_no_words(self):
        for name in ("integer", "boolean", "first", "last", "a", "z9", "a_1", "a_b_c", "storage_error", "main", "do"):
            self.assertEqual(self.kinds(name), [("name", name)])

    def test_each_sign(self):
        for sign in SIGNS:
            self.assertEqual(scan(" " + sign), [("sign", sign, 1, 2), ("end", "", 1, len(sign) + 2)])

    def test_the_longer_sign(self):
        for text, signs in (
            (":=", [":="]), (": =", [":", "="]), ("=>=", ["=>", "="]), ("<=>", ["<=", ">"]), (">==", [">=", "="]),
            ("::=", [":", ":="]), ("/==", ["/=", "="]), ("//=", ["/", "/="]), ("==>", ["=", "=>"]), ("....", [".."] * 2),
            ("<>", ["<", ">"]), ("**", ["*", "*"]), ("<<=", ["<", "<="]), ("()|'", ["(", ")", "|", "'"]),
        ):
            self.assertEqual(self.kinds(text), [("sign", sign) for sign in signs])

    def test_tokens_without_spaces_between(self):
        self.assertEqual(self.kinds("a:=1..2'b"), [
            ("name", "a"), ("sign", ":="), ("number", 1), ("sign", ".."), ("number", 2), ("sign", "'"), ("name", "b"),
        ])
        self.assertEqual(self.kinds("1+2"), [("number", 1), ("sign", "+"), ("number", 2)])

    def test_spaces_and_line_feeds(self):
        self.assertEqual(scan("  a\n\n   b \nc"), [
            ("name", "a", 1, 3), ("name", "b", 3, 4), ("name", "c", 4, 1), ("end", "", 4, 2),
        ])

    def test_comments(self):
        self.assertEqual(scan("a--b c A % ~\nd"), [("name", "a", 1, 1), ("name", "d", 2, 1), ("end", "", 2, 2)])
        self.assertEqual(scan("--"), [("end", "", 1, 3)])
        self.assertEqual(scan("a -- b"), [("name", "a", 1, 1), ("end", "", 1, 7)])
        self.assertEqual(scan("a----\n--\nb"), [("name", "a", 1, 1), ("name", "b", 3, 1), ("end", "", 3, 2)])
        self.assertEqual(self.kinds("a - - b"), [("name", "a"), ("sign", "-"), ("sign", "-"), ("name", "b")])
        self.assertEqual(self.kinds("a ---1\n+ 2"), [("name", "a"), ("sign", "+"), ("number", 2)])
        self.assertEqual(self.kinds("1--2"), [("number", 1)])
        self.assertEqual(self.kinds("a_b--_"), [("name", "a_b")])

    def test_a_comment_separates(self):
        self.assertEqual(self.kinds("a--\nb"), [("name", "a"), ("name", "b")])
        self.assertEqual(self.kinds(":--\n="), [("sign", ":"), ("sign", "=")])

    def test_place_of_the_end(self):
        for text, place in (
            ("", (1, 1)), (" ", (1, 2)), ("abc", (1, 4)), ("\n", (2, 1)), ("a\n", (2, 1)), ("a\n\n", (3, 1)),
            ("a\n  ", (2, 3)), ("--x\n", (2, 1)), ("--x", (1, 4)), ("\n\n--x ", (3, 5)),
        ):
            self.assertEqual(scan(text)[-1], ("end", "", *place))

    def test_long_names(self):
        name = "a" * 30
        self.assertEqual(self.kinds(name), [("name", name)])
        self.assert_scan_error("b + @" + "a" * 31)
        name = "a1_" * 9 + "b_c"
        self.assertEqual(len(name), 30)
        self.assertEqual(self.kinds(name), [("name", name)])
        self.assert_scan_error("@" + name + "d")

    def test_underscores(self):
        for text in ("@a_", "@a__b", "@a___b", "@a_b_", "x\n  @end_", "1 @begin__", "@a__", "@is_;", "@a1_ b"):
            self.assert_scan_error(text)
        self.assert_scan_error("a @_b")
        self.assert_scan_error("@_")

    def test_numbers(self):
        for text, value in (
            ("0", 0), ("007", 7), ("2147483647", 2147483647), ("0000000000", 0), ("0000000001", 1), ("1000000000", 10**9),
        ):
            self.assertEqual(scan(text)[0], ("number", value, 1, 1))
        for text in ("@2147483648", "@9999999999", "@00000000001", "@00000000000", "@12345678901", "a := @2147483648;"):
            self.assert_scan_error(text)

    def test_what_stands_behind_a_number(self):
        for text in ("@1a", "@1_", "@12_000", "x = @0b", "@1end", "@2147483648a", "@00000000000_"):
            self.assert_scan_error(text)
        self.assert_scan_error("1@A")
        self.assertEqual(self.kinds("1 a"), [("number", 1), ("name", "a")])
        self.assertEqual(self.kinds("1'a"), [("number", 1), ("sign", "'"), ("name", "a")])

    def test_characters_that_begin_no_token(self):
        for character in "!\"#$&.?@[\\]^_`{}~ABCDEFGHIJKLMNOPQRSTUVWXYZ":
            self.assert_error(ScanError, (1, 1), scan, character)
            self.assert_error(ScanError, (2, 3), scan, "a\n (" + character + ")")
            self.assertEqual(scan("--" + character), [("end", "", 1, 4)])
        self.assert_scan_error("1@.5")
        self.assert_scan_error("..@.")

    def test_the_first_of_several_places(self):
        self.assert_scan_error("a @b__c A")
        self.assert_scan_error("a @A b__c")
        self.assert_scan_error("@99999999999 a_")
        self.assert_scan_error("a --A b__c\n@1x A")
        self.assert_scan_error("@a_ 1a")

    def test_length_of_the_text(self):
        text = " " * 3999 + "a"
        self.assertEqual(scan(text), [("name", "a", 1, 4000), ("end", "", 1, 4001)])
        for text in (" " * 4001, "A" * 4001, "\n" * 4001, "--" + " " * 3999, "a" * 4001):
            for function in (scan, parse, parse_expression):
                self.assert_error(TooLarge, None, function, text)
        self.assert_error(ScanError, (1, 1), scan, "A" * 4000)
        self.assertEqual(scan("\n" * 4000), [("end", "", 4001, 1)])


if __name__ == "__main__":
    unittest.main()
