"""L11: no text, tree or run needs a recursion deeper than a few hundred calls."""

import sys
import unittest

from windowada.assign import assign
from windowada.build import build
from windowada.checkdecl import check
from windowada.declarations import parse
from windowada.expressions import depth, parse_expression
from windowada.house import run_text
from windowada.improve import improve
from windowada.lower import lower
from windowada.runcall import run_source
from windowada.runner import run_module
from windowada.show import show, show_expression

LIMIT = 350

EXPRESSION = "(" * 6 + "f(" + "(" * 6 + "1 + f(1 + f(x))" + ")" * 13


def deepest_program(statements):
    """Returns a text with subprograms in blocks in statements inside of one another, as deep as the bounds allow."""
    text = statements
    for level in range(4):
        text = "begin " * 3 + "declare x : integer; " + text if level else text
        name = "m" if level == 3 else "p"
        text = f"procedure {name} is x : integer; begin " + text + (" begin p;" + " end;" * 5 + " " if level else " end; ")
    return text


def deepest(function, *arguments, **more):
    """Returns how many calls inside of one another a call needs."""
    most = 0
    now = 0

    def look(_frame, event, _argument):
        nonlocal most, now
        if event == "call":
            now += 1
            most = max(most, now)
        elif event == "return":
            now -= 1

    sys.setprofile(look)
    try:
        function(*arguments, **more)
    finally:
        sys.setprofile(None)
    return most


class RecursionTest(unittest.TestCase):

    def test_parts_of_programs(self):
        inner = "loop " * 4 + "x := " + EXPRESSION.replace("f(", "y(") + ";" + " end loop;" * 4
        text = deepest_program(inner)
        tree = parse(text)
        self.assertLess(deepest(parse, text), LIMIT)
        self.assertLess(deepest(show, tree), LIMIT)

    def test_check(self):
        inner = "if true then " * 4 + "x := x + (x + (x + (x + (x + 1))));" + " end if;" * 4
        tree = parse(deepest_program(inner))
        self.assertLess(deepest(check, tree), LIMIT)
        self.assertLess(deepest(run_source, check(tree), [], fuel=1000), LIMIT)
        self.assertLess(deepest(lower, check(tree)), LIMIT)

    def test_expressions(self):
        self.assertLess(deepest(parse_expression, EXPRESSION), LIMIT)
        tree = ("name", "a", (1, 1))
        for _ in range(49):
            tree = ("apply", "f", (tree,), (1, 1))
        self.assertEqual(depth(tree), 50)
        self.assertLess(deepest(depth, tree), LIMIT)
        self.assertLess(deepest(show_expression, parse_expression(EXPRESSION)), LIMIT)

    def test_calls(self):
        assignment = "n := 1 + (1 + (1 + (1 + f(n))));"
        for body in (
            "begin " * 4 + assignment + " exception when end_error => null; end;" + " end;" * 3,
            "while true loop " * 4 + assignment + " end loop;" * 4,
            "loop " * 4 + "n := f(f(f(f(f(n)))));" + " end loop;" * 4,
            "for i in 1 .. 2 loop " * 4 + "n := f(v(1 + v(f(n))));" + " end loop;" * 4,
        ):
            text = (
                "procedure m is type t is array (1 .. 2) of integer; v : t; x : integer; function f (k : integer) return integer is "
                "n : integer := k; begin " + body + " return n; end; begin x := f(1); exception when storage_error => put(7); end;"
            )
            program = check(parse(text))
            self.assertEqual(run_source(program, [], fuel=1000), ((("put", 7),), ("normal",)))
            self.assertLess(deepest(run_source, program, [], fuel=1000), LIMIT)
            module = lower(program)
            self.assertLess(deepest(lower, program), LIMIT)
            for function, *arguments in ((improve, module), (assign, module.units[0]), (assign, module.units[1])):
                self.assertLess(deepest(function, *arguments), LIMIT)
            self.assertLess(deepest(run_module, module, [], fuel=1000), LIMIT)
            self.assertLess(deepest(build, text), LIMIT)
            self.assertLess(deepest(run_text, text, [], fuel=1000, windows=3), LIMIT)

    def test_texts_that_are_too_deep_or_no_program(self):
        for text in (
            "procedure p is " * 250, "procedure p is begin " + "loop " * 700, "procedure p is begin x := " + "(" * 3900,
            "procedure p is begin x := " + "- " * 1900 + "1; end;", "procedure p is begin x := " + "f(" * 1200 + "1" + ")" * 1200 + "; end;",
            "procedure p is begin x := 1" + " + 1" * 900 + "; end;", "procedure p is begin " + "loop " * 250 + "null; " + "end loop; " * 250 + "end;",
        ):
            self.assertLess(deepest(self.failing, text), LIMIT)

    def failing(self, text):
        try:
            parse(text)
        except ValueError:
            return
        self.fail(text)


if __name__ == "__main__":
    unittest.main()
