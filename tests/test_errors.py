"""Points [3] and [9]: the classes of the errors."""

import unittest

from windowada import errors
from windowada.checkdecl import check
from windowada.declarations import parse

BASES = {
    "AdaError": "ValueError", "SourceError": "AdaError", "ScanError": "SourceError", "ParseError": "SourceError",
    "TooLarge": "SourceError", "CheckError": "SourceError", "UnknownName": "CheckError",
    "DuplicateName": "CheckError", "WrongKind": "CheckError", "WrongMode": "CheckError", "BadRange": "CheckError",
    "Misplaced": "CheckError", "CodeError": "AdaError", "ImageError": "AdaError",
}

FAULTY = {
    "ScanError": "procedure main is\nbegin\n  A;\nend;",
    "ParseError": "procedure main is\nbegin\n  x y;\nend;",
    "TooLarge": "procedure main is\nbegin\n  put(-(-(-(-(-(-1))))));\nend;",
    "UnknownName": "procedure main is\nbegin\n  put(a);\nend;",
    "DuplicateName": "procedure main is\n  a : integer;\n  a : integer;\nbegin\n  null;\nend;",
    "WrongKind": "procedure main is\nbegin\n  put(true);\nend;",
    "WrongMode": "procedure main is\n  c : constant integer := 1;\nbegin\n  c := 2;\nend;",
    "BadRange": "procedure main is\n  subtype s is integer range 2 .. 1;\nbegin\n  null;\nend;",
    "Misplaced": "procedure main is\nbegin\n  exit;\nend;",
}


class ErrorsTest(unittest.TestCase):

    def test_bases(self):
        for name, base in BASES.items():
            self.assertEqual([each.__name__ for each in getattr(errors, name).__bases__], [base], name)

    def test_each_error_of_a_text_is_of_its_class_alone_and_has_a_place(self):
        for name, text in FAULTY.items():
            with self.assertRaises(errors.SourceError) as caught:
                check(parse(text))
            self.assertIs(type(caught.exception), getattr(errors, name), name)
            self.assertIsInstance(caught.exception, ValueError)
            self.assertIs(type(caught.exception.line), int)
            self.assertIs(type(caught.exception.column), int)
            self.assertGreaterEqual(caught.exception.line, 1)
            self.assertGreaterEqual(caught.exception.column, 1)

    def test_an_earlier_step_comes_first(self):
        broken_rule = "put(true);"
        unfinished = "null"
        for text, name in (
            ("procedure main is begin %s %s end; A" % (broken_rule, unfinished), "ScanError"),
            ("procedure main is begin %s %s end;" % (broken_rule, unfinished), "ParseError"),
        ):
            with self.assertRaises(errors.SourceError) as caught:
                check(parse(text))
            self.assertIs(type(caught.exception), getattr(errors, name))


if __name__ == "__main__":
    unittest.main()
