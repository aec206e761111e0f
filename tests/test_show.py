"""Points [34] to [36]: programs and expressions as text."""

import random
import unittest

from tests.helpers import strip_places
from tests.programs import make_program
from windowada.declarations import parse
from windowada.errors import ParseError
from windowada.expressions import depth, parse_expression
from windowada.show import show, show_expression

P = (1, 1)
BINARY = ("and", "or", "xor", "and then", "or else", "=", "/=", "<", "<=", ">", ">=", "+", "-", "*", "/", "mod", "rem")
UNARY = ("-", "abs", "not")

A = ("name", "a", P)
B = ("name", "b", P)
NULL = (("null", P),)

# Every line of every form, with _ for one step.
WHOLE = """procedure main is
_x : integer;
_y : integer := 1 + 2;
_z : constant boolean := true;
_e : exception;
_subtype s is integer range -5 .. 10;
_type t is array (-2147483647 .. -3) of s;
_procedure q is
_begin
__null;
_exception
__when e =>
___raise;
__when e | end_error =>
___raise e;
___null;
__when others =>
___return;
_end q;
_procedure r (a : integer; b : out integer; c : in out s) is
__u : integer;
_begin
__q;
_end r;
_function f return s is
_begin
__return 1;
_end f;
_function g (a : integer) return boolean is
__function h (a : integer; b : integer) return boolean is
__begin
___return a < b;
__end h;
_begin
__return h(a, -1);
_end g;
begin
_null;
_x := x + 1;
_v(1) := x;
_put(x);
_get(x);
_get(v(x + 1));
_q;
_r(1, x, v(2));
_if x = 1 then
__null;
_end if;
_if x = 1 then
__null;
_elsif x = 2 then
__null;
__null;
_elsif x = 3 then
__null;
_else
__null;
_end if;
_while x < 3 loop
__exit;
_end loop;
_loop
__exit when x > 1;
_end loop;
_for i in 1 .. 3 loop
__null;
_end loop;
_for i in reverse x'first .. x'last loop
__null;
_end loop;
_case x is
__when others =>
___null;
_end case;
_case x + 1 is
__when -1 =>
___null;
__when 2 | 3 .. 4 | -6 .. -5 =>
___null;
___null;
__when others =>
___null;
_end case;
_begin
__null;
_end;
_declare
__u : integer;
__procedure w is
__begin
___null;
__end w;
_begin
__null;
_exception
__when others =>
___begin
____null;
___end;
_end;
exception
_when constraint_error =>
__null;
end main;"""


def with_steps(indent):
    """Returns WHOLE with steps of some spaces."""
    lines = []
    for line in WHOLE.split("\n"):
        text = line.lstrip("_")
        lines.append(" " * (indent * (len(line) - len(text))) + text)
    return "\n".join(lines)


def binary(operator, left, right):
    return ("binary", operator, left, right, P)


def reads(text):
    """Returns the tree of a text without its places, None if there is none."""
    try:
        return strip_places(parse_expression(text))
    except ParseError:
        return None


class ProgramsTest(unittest.TestCase):

    def test_every_line_of_every_form(self):
        tree = parse(with_steps(0))
        for indent in range(9):
            self.assertEqual(show(tree, indent=indent), with_steps(indent))
        self.assertEqual(show(tree), with_steps(3))

    def test_the_name_behind_end_is_always_shown(self):
        text = "procedure main is\nprocedure q is\nbegin\nnull;\nend q;\nbegin\nnull;\nend main;"
        self.assertEqual(show(parse(text.replace("end q", "end").replace("end main", "end")), indent=0), text)

    def test_modes(self):
        tree = parse("procedure p is procedure q (a : in integer) is begin null; end; begin null; end;")
        self.assertIn("procedure q (a : integer) is\n", show(tree))

    def test_declare_without_declarations(self):
        tree = parse("procedure p is begin declare begin null; end; end;")
        self.assertEqual(show(tree, indent=1), "procedure p is\nbegin\n begin\n  null;\n end;\nend p;")

    def test_choices(self):
        tree = parse("procedure p is begin case 1 is when 1 .. 1 | 2 .. 1 => null; when others => null; end case; end;")
        self.assertIn("\n      when 1 | 2 .. 1 =>\n", show(tree))

    def test_places_make_no_difference(self):
        tree = parse(with_steps(0))
        self.assertEqual(show(strip_places(tree)), show(tree))

    def test_the_text_has_the_tree(self):
        short = 0
        for seed in range(150):
            tree = make_program(seed)
            for indent in (0, 3, 7):
                text = show(tree, indent=indent)
                if len(text) <= 4000:
                    short += 1
                    again = parse(text)
                    self.assertEqual(strip_places(again), strip_places(tree))
                    self.assertEqual(show(again, indent=indent), text)
        self.assertGreater(short, 100)

    def test_trees_of_any_size(self):
        many = 20000
        tree = ("procedure", "p", (), (), (("assign", A, B, P),) * many, (), P)
        self.assertEqual(show(tree, indent=0), "procedure p is\nbegin\n" + "a := b;\n" * many + "end p;")
        tree = ("procedure", "p", (), (), (("if", ((A, NULL),) * many, (), P),), (), (9, 9))
        text = "if a then\nnull;\n" + "elsif a then\nnull;\n" * (many - 1) + "end if;\n"
        self.assertEqual(show(tree, indent=0), "procedure p is\nbegin\n" + text + "end p;")

    def test_arguments_are_not_changed(self):
        tree = parse(with_steps(0))
        show(tree)
        self.assertEqual(tree, parse(with_steps(0)))


class ExpressionsTest(unittest.TestCase):

    def assert_shown(self, expression, text):
        self.assertEqual(show_expression(expression), text)
        self.assertEqual(reads(text), strip_places(expression))

    def test_example(self):
        self.assert_shown(("unary", "-", ("unary", "-", A, P), P), "- -a")

    def test_primaries(self):
        self.assert_shown(("number", 0, P), "0")
        self.assert_shown(("number", 2147483647, P), "2147483647")
        self.assertEqual(show_expression(parse_expression("0007")), "7")
        self.assert_shown(("truth", True, P), "true")
        self.assert_shown(("truth", False, P), "false")
        self.assert_shown(A, "a")
        self.assert_shown(("first", "a", P), "a'first")
        self.assert_shown(("last", "first", P), "first'last")
        self.assert_shown(("apply", "f", (A,), P), "f(a)")
        self.assert_shown(("apply", "f", (binary("+", A, B), binary("or", A, B), ("number", 3, P)), P), "f(a + b, a or b, 3)")

    def test_each_operator(self):
        for operator in BINARY:
            self.assert_shown(binary(operator, A, B), f"a {operator} b")
        for operator, text in (("-", "-a"), ("abs", "abs a"), ("not", "not a")):
            self.assert_shown(("unary", operator, A, P), text)

    def test_unary_operators_in_each_other(self):
        for outer, inner, text in (
            ("-", "-", "- -a"), ("-", "abs", "-abs a"), ("-", "not", "-not a"), ("abs", "-", "abs -a"),
            ("abs", "abs", "abs abs a"), ("abs", "not", "abs not a"), ("not", "-", "not -a"), ("not", "abs", "not abs a"),
            ("not", "not", "not not a"),
        ):
            self.assert_shown(("unary", outer, ("unary", inner, A, P), P), text)
        deep = A
        for _ in range(5):
            deep = ("unary", "-", deep, P)
        self.assert_shown(deep, "- - - - -a")

    def test_operators_with_two_operands_below_unary_ones(self):
        for outer in UNARY:
            for inner in BINARY:
                start = "-" if outer == "-" else outer + " "
                self.assert_shown(("unary", outer, binary(inner, A, B), P), f"{start}(a {inner} b)")
                start = "-(-a" if outer == "-" else outer + " (-a"
                self.assert_shown(
                    ("unary", outer, binary(inner, ("unary", "-", A, P), B), P), f"{start} {inner} b)",
                )

    def test_unary_operators_below_others(self):
        for outer in BINARY:
            for inner, text in (("-", "-a"), ("abs", "abs a"), ("not", "not a")):
                unary = ("unary", inner, A, P)
                self.assert_shown(binary(outer, unary, unary), f"{text} {outer} {text}")

    def test_brackets_exactly_where_they_are_needed(self):
        for outer in BINARY:
            for inner in BINARY:
                for tree, bare, bracketed in (
                    (binary(outer, binary(inner, A, B), A), f"a {inner} b {outer} a", f"(a {inner} b) {outer} a"),
                    (binary(outer, A, binary(inner, A, B)), f"a {outer} a {inner} b", f"a {outer} (a {inner} b)"),
                ):
                    right = bare if reads(bare) == strip_places(tree) else bracketed
                    self.assert_shown(tree, right)

    def test_named_cases_of_brackets(self):
        for text in (
            "a - b + a", "a - (b + a)", "a * b mod a", "a * (b mod a)", "a + b * a", "(a + b) * a", "a and b and a",
            "a and (b and a)", "(a and b) or a", "(a and then b) and a", "a and then b and then a", "(a or else b) or a",
            "(a = b) = a", "a = (b = a)", "a = b and a < b", "a = (b and a)", "-a + b", "-(a + b)", "not (a and b)",
            "not a and b", "not (a = b)", "abs (a - b) * a", "a - -b", "a * -b", "f(a - (b - a))", "-f(a)", "- -f(a)", "-(-a - b)",
            "abs -a", "a xor b xor (a xor b)",
        ):
            tree = parse_expression(text)
            self.assertEqual(show_expression(tree), text)

    def test_brackets_that_are_not_needed_are_left_out(self):
        for text, shown in (
            ("((a))", "a"), ("(a) + (b)", "a + b"), ("(a + b) + a", "a + b + a"), ("(a * b) + a", "a * b + a"),
            ("a + (b * a)", "a + b * a"), ("(a and b) and a", "a and b and a"), ("-(a)", "-a"), ("-(-a)", "- -a"),
            ("(-a) + b", "-a + b"), ("a + (-b)", "a + -b"), ("(a + b) = (a * b)", "a + b = a * b"), ("f((a))", "f(a)"),
            ("(a = b) or else (a < b)", "a = b or else a < b"), ("not (not a)", "not not a"), ("-(f(a))", "-f(a)"),
        ):
            self.assertEqual(show_expression(parse_expression(text)), shown)

    def test_any_trees(self):
        rng = random.Random(35)
        for _ in range(600):
            tree = self.make(rng, rng.randint(1, 6))
            text = show_expression(tree)
            self.assertEqual(reads(text), strip_places(tree), text)
            self.assertEqual(show_expression(parse_expression(text)), text)

    def make(self, rng, deep):
        """Returns a tree, without looking at kinds."""
        if deep == 1 or rng.random() < 0.1:
            return rng.choice((A, B, ("number", 7, P), ("truth", True, P), ("first", "a", P), ("last", "b", P)))
        form = rng.choice(("unary", "binary", "binary", "binary", "apply"))
        if form == "unary":
            return ("unary", rng.choice(UNARY), self.make(rng, deep - 1), P)
        if form == "binary":
            return binary(rng.choice(BINARY), self.make(rng, deep - 1), self.make(rng, deep - 1))
        return ("apply", "f", tuple(self.make(rng, deep - 1) for _ in range(rng.randint(1, 3))), P)

    def test_no_more_brackets_than_needed_in_any_tree(self):
        rng = random.Random(36)
        for _ in range(300):
            tree = self.make(rng, 4)
            text = show_expression(tree)
            for at in [at for at, character in enumerate(text) if character == "("]:
                if at > 0 and text[at - 1] == "f":
                    continue
                end = self.closing(text, at)
                shorter = text[:at] + text[at + 1:end] + text[end + 1:]
                self.assertNotEqual(reads(shorter), strip_places(tree), text)
        self.assertEqual(depth(A), 1)

    def closing(self, text, at):
        deep = 0
        for index in range(at, len(text)):
            deep += (text[index] == "(") - (text[index] == ")")
            if deep == 0:
                return index
        raise AssertionError


if __name__ == "__main__":
    unittest.main()
