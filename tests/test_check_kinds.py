"""Points [19] to [21]: marks, kinds, targets and modes."""

import unittest

from tests.helpers import SourceCase
from windowada.errors import Misplaced, WrongKind, WrongMode

HEAD = """procedure m is
subtype s is integer range 0 .. 9; type t is array (1 .. 2) of integer; type u is array (0 .. 3) of boolean;
x : integer; y : s; b : boolean; v : t; w : u; c : constant integer := 1; d : constant boolean := true; e : exception;
function f return integer is begin return 1; end;
function g (a : integer) return integer is begin return a; end;
function h (a : boolean; k : s) return boolean is begin return a; end;
function n return boolean is begin return true; end;
procedure p is begin null; end;
procedure q (a : integer) is begin null; end;
procedure r (a : boolean; k : integer) is begin null; end;
procedure o (a : out integer) is begin null; end;
procedure i (a : in out integer; k : out boolean) is begin null; end;
begin
"""
INTEGERS = ("1", "x", "y", "c", "f", "g(1)", "v(1)", "s'first", "integer'last", "t'first", "v'last", "w'first", "-x", "abs x", "x + 1",
            "x mod 2", "(x)", "g(g(f))")
BOOLEANS = ("true", "false", "b", "d", "n", "h(b, 1)", "w(0)", "not b", "x = 1", "b = d", "x < y", "b and d", "b or else d", "(b)",
            "b /= (x = 1)")
NO_VALUES = ("v", "w", "s", "t", "e", "p", "q", "integer", "boolean", "end_error", "g", "h")
# The place of these is not that of their first character.
INNER_PLACES = {
    "(x)": 1, "(b)": 1, "x + 1": 2, "x mod 2": 2, "x = 1": 2, "b = d": 2, "x < y": 2, "b and d": 2, "b or else d": 2, "b /= (x = 1)": 2,
}


def at_place(expression):
    """Returns an expression with @ at its place."""
    at = INNER_PLACES.get(expression, 0)
    return expression[:at] + "@" + expression[at:]


class KindsTest(SourceCase):

    def good(self, text):
        self.assert_accepted(HEAD + text + " end;")

    def bad(self, kind, text):
        self.assert_rejected(kind, HEAD + text + " end;")

    def assert_position(self, text, good, bad):
        """Looks at a position, written {}, that takes expressions of one kind."""
        for expression in good:
            self.good(text.format(expression))
        for expression in bad:
            self.bad(WrongKind, text.format(at_place(expression)))
        for name in NO_VALUES:
            self.bad(WrongKind, text.format("@" + name))

    def test_positions_of_integers(self):
        for text in (
            "put({});", "x := {};", "y := {};", "v(1) := {};", "v({}) := 1;", "w({}) := b;", "get(v({}));", "q({});", "r(b, {});",
            "put(g({}));", "put(v({}));", "o(v({}));", "case {} is when others => null; end case;",
            "for j in {} .. 2 loop null; end loop;", "for j in 1 .. {} loop null; end loop;",
            "for j in reverse 1 .. {} loop null; end loop;", "b := h(d, {});", "b := w({});",
            "declare j : integer := {}; begin null; end;", "declare j : constant s := {}; begin null; end;",
            "declare function z return integer is begin return {}; end; begin null; end;",
            "declare function z return s is begin return {}; end; begin null; end;", "begin null; exception when others => put({}); end;",
        ):
            self.assert_position(text, INTEGERS, BOOLEANS)

    def test_positions_of_booleans(self):
        for text in (
            "b := {};", "w(1) := {};", "r({}, 1);", "b := h({}, 1);", "if {} then null; end if;",
            "if b then null; elsif {} then null; end if;", "while {} loop null; end loop;", "loop exit when {}; end loop;",
            "declare j : boolean := {}; begin null; end;", "declare j : constant boolean := {}; begin null; end;",
            "declare function z return boolean is begin return {}; end; begin null; end;",
        ):
            self.assert_position(text, BOOLEANS, INTEGERS)

    def test_operands(self):
        for operator in ("+", "-", "*", "/", "mod", "rem"):
            self.assert_position("x := {} " + operator + " (1);", ("1", "x", "g(1)", "(x + 1)"), ("true", "b", "n", "w(0)"))
            self.assert_position("x := 1 " + operator + " {};", ("1", "x", "g(1)", "(x + 1)"), ("true", "b", "n", "w(0)"))
        for operator in ("<", "<=", ">", ">="):
            self.assert_position("b := {} " + operator + " 1;", ("1", "x", "x + 1"), ("true", "b", "h(b, 1)"))
            self.assert_position("b := 1 " + operator + " {};", ("1", "x", "x + 1"), ("true", "b", "h(b, 1)"))
        for operator in ("and", "or", "xor", "and then", "or else"):
            self.assert_position("b := {} " + operator + " b;", ("true", "b", "x = 1"), ("1", "x", "x + 1"))
            self.assert_position("b := b " + operator + " {};", ("true", "b", "x = 1"), ("1", "x", "x + 1"))
        for operator in ("-", "abs"):
            self.assert_position("x := " + operator + " {};", ("1", "x", "v(1)"), ("true", "b"))
        self.assert_position("b := not {};", ("true", "b", "w(1)"), ("1", "x"))

    def test_equality_takes_one_kind(self):
        for operator in ("=", "/="):
            self.assert_position("b := 1 " + operator + " {};", ("1", "x", "x + 1"), ("true", "b"))
            self.assert_position("b := b " + operator + " {};", ("true", "b"), ("1", "x", "x + 1"))
            for name in NO_VALUES:
                self.bad(WrongKind, f"b := @{name} {operator} 1;")
            self.bad(WrongKind, f"b := true {operator} @1;")

    def test_results_of_operators(self):
        for text in (
            "put(1 + 2 @= 3);", "put(x @< 1);", "put(b @and d);", "put(b @or else d);", "put(@not b);", "b := 1 @+ 2;",
            "b := @-x;", "b := @abs x;", "if x @* 2 then null; end if;", "x := b @= d;", "v(x @= 1) := 1;", "q(x @/= 1);",
        ):
            self.bad(WrongKind, text)

    def test_names(self):
        for name in NO_VALUES:
            self.bad(WrongKind, f"x := @{name};")
            self.bad(WrongKind, f"if @{name} then null; end if;")

    def test_loop_names_are_integers(self):
        self.good("for j in 1 .. 2 loop put(j); x := j + 1; end loop;")
        self.bad(WrongKind, "for j in 1 .. 2 loop b := @j; end loop;")

    def test_attributes(self):
        for name in ("integer", "s", "t", "u", "v", "w"):
            self.good(f"x := {name}'first; x := {name}'last;")
            self.bad(WrongKind, f"b := @{name}'first;")
        for name in ("boolean", "x", "y", "b", "c", "e", "f", "p", "end_error", "q", "h"):
            self.bad(WrongKind, f"x := @{name}'first;")
            self.bad(WrongKind, f"x := 1 + @{name}'last;")
        self.bad(WrongKind, "for j in 1 .. 2 loop put(@j'first); end loop;")
        self.bad(WrongKind, "declare procedure z (k : s) is begin put(@k'first); end; begin null; end;")

    def test_elements_and_calls(self):
        for text in (
            "x := @v(1, 2);", "x := @f(1);", "x := @g(1, 2);", "b := @h(b);", "b := @h(b, 1, 2);", "x := @x(1);", "x := @c(1);", "x := @s(1);",
            "x := @t(1);", "x := @integer(1);", "x := @p(1);", "x := @q(1);", "x := @e(1);", "x := @end_error(1);", "x := @boolean(1);",
            "x := v(@b);", "x := g(@b);", "b := h(@1, 1);", "b := h(b, @b);", "x := v(v(@b));", "x := g(@w(1));", "b := w(@w(1));",
            "for j in 1 .. 2 loop x := @j(1); end loop;", "x := @v;", "x := @g;", "b := @h;",
        ):
            self.bad(WrongKind, text)
        self.good("x := v(x); x := v(v(1)); b := w(g(f)); b := h(w(1), v(2)); x := f; b := n;")

    def test_call_statements(self):
        for text in (
            "@x;", "@v;", "@v(1);", "@c;", "@s;", "@e;", "@f;", "@g(1);", "@integer;", "@end_error;", "@p(1);", "@q;", "@q(1, 2);", "@r(b);",
            "@r(b, 1, 2);", "@n;", "@h(b, 1);", "for j in 1 .. 2 loop @j; end loop;", "@o;", "@o(x, x);", "@i(x);", "@boolean;",
        ):
            self.bad(WrongKind, text)
        self.good("p; q(1); r(b, 1); o(x); i(x, b);")

    def test_raise_and_handlers(self):
        for name in ("x", "v", "c", "s", "t", "f", "p", "integer", "boolean"):
            self.bad(WrongKind, f"@raise {name};")
            self.bad(WrongKind, f"begin null; exception @when {name} => null; end;")
            self.bad(WrongKind, f"begin null; exception @when e | {name} | end_error => null; end;")
        self.good("begin raise e; exception when e | storage_error => raise end_error; end;")


class MarksTest(SourceCase):

    HEAD = "procedure m is subtype s is integer range 0 .. 9; type t is array (1 .. 2) of s; x : integer; e : exception; "
    HEAD += "procedure p is begin null; end; function f return s is begin return 1; end;\n"

    def good(self, text):
        self.assert_accepted(self.HEAD + text + " begin null; end;")

    def bad(self, kind, text):
        self.assert_rejected(kind, self.HEAD + text + " begin null; end;")

    POSITIONS = (
        ("@z : {};", "integer boolean s t"), ("@z : constant {} := 1;", "integer s"), ("@z : {} := 1;", "integer s"),
        ("@z : constant {} := true;", "boolean"), ("@z : {} := true;", "boolean"), ("subtype @z is {} range 1 .. 2;", "integer s"),
        ("type @z is array (1 .. 2) of {};", "integer boolean s"), ("procedure z (@a : {}) is begin null; end;", "integer boolean s"),
        ("procedure z (k : s; @a : out {}) is begin null; end;", "integer boolean s"),
        ("procedure z (@a : in out {}) is begin null; end;", "integer boolean s"),
        ("function @z return {} is begin return 1; end;", "integer s"), ("function @z return {} is begin return true; end;", "boolean"),
        ("function z (@a : {}) return integer is begin return 1; end;", "integer boolean s"),
    )

    def test_marks(self):
        for text, marks in self.POSITIONS:
            for mark in marks.split():
                self.good(text.replace("@", "").format(mark))
            for mark in ("x", "e", "p", "f", "end_error"):
                self.bad(WrongKind, text.format(mark))
            if "t" not in marks.split():
                self.bad(WrongKind, text.format("t"))

    def test_the_mark_of_a_subtype(self):
        self.bad(WrongKind, "subtype @z is boolean range 0 .. 1;")
        self.bad(WrongKind, "subtype @z is t range 1 .. 2;")
        self.good("subtype z is s range 1 .. 2; subtype y is z range 1 .. 1;")

    def test_a_variable_with_an_array_as_its_mark_has_no_value(self):
        self.bad(WrongKind, "@z : t := 1;")

    def test_the_kind_of_the_value(self):
        for text in (
            "z : integer := @true;", "z : boolean := @1;", "z : s := 1 @= 2;", "z : constant integer := @true;", "z : constant boolean := @x;",
        ):
            self.bad(WrongKind, text)


class TargetsTest(SourceCase):

    def good(self, text):
        self.assert_accepted(HEAD + text + " end;")

    def bad(self, kind, text):
        self.assert_rejected(kind, HEAD + text + " end;")

    # How a target that is an integer, and one that is a Boolean, may be given.
    POSITIONS = ("{} := 1;", "get({});", "o({});", "i({}, b);")
    BOOLEAN_POSITIONS = ("{} := true;", "i(x, {});")

    def test_targets(self):
        for target in ("x", "y", "v(1)", "v(x + 1)", "v(f)"):
            for text in self.POSITIONS:
                self.good(text.format(target))
        for target in ("b", "w(0)", "w(x)"):
            for text in self.BOOLEAN_POSITIONS:
                self.good(text.format(target))

    def test_no_targets(self):
        for target in (
            "@v", "@s", "@t", "@e", "@f", "@g", "@p", "@integer", "@end_error", "@x(1)", "@c(1)", "@s(1)", "@t(1)", "@f(1)", "@g(1)", "@p(1)",
            "@e(1)", "@integer(1)", "v(@b)", "v(@true)", "v(x @= 1)", "v(@v)", "v(@p)", "@y(1)",
        ):
            for text in self.POSITIONS:
                self.bad(WrongKind, text.format(target))
        self.bad(WrongKind, "o(@v(1, 2));")
        self.bad(WrongKind, "o(@g(1, 2));")

    def test_constants_and_their_like(self):
        for text in self.POSITIONS:
            self.bad(WrongMode, text.format("@c"))
            self.bad(WrongMode, "for j in 1 .. 2 loop " + text.format("@j") + " end loop;")
            self.bad(WrongKind, "for j in 1 .. 2 loop " + text.format("@j(1)") + " end loop;")
            for mode in ("", "in "):
                self.bad(WrongMode, f"declare procedure z (k : {mode}integer) is begin " + text.format("@k") + " end; begin null; end;")
            self.bad(WrongKind, "declare procedure z (k : integer) is begin " + text.format("@k(1)") + " end; begin null; end;")
            self.bad(WrongMode, "declare k : constant s := 1; begin " + text.format("@k") + " end;")
            for mode in ("out ", "in out "):
                self.good(f"declare procedure z (k : {mode}integer) is begin " + text.format("k") + " x := k; end; begin null; end;")
        self.bad(WrongMode, "@d := true;")
        self.bad(WrongMode, "i(x, @d);")

    def test_parameters_of_the_subprogram_around(self):
        for mode, kind in (("", WrongMode), ("out ", None), ("in out ", None)):
            text = f"declare procedure z (k : {mode}integer) is procedure zz is begin @k := 1; end; begin null; end; begin null; end;"
            if kind is None:
                self.good(text.replace("@", ""))
            else:
                self.bad(kind, text)

    def test_kinds_of_targets(self):
        for text in (
            "x := @true;", "b := @1;", "v(1) := @b;", "w(1) := @x;", "get(@b);", "get(@w(1));", "o(@b);", "o(@w(1));", "i(@b, b);", "i(x, @x);",
            "i(x, @v(1));",
        ):
            self.bad(WrongKind, text)

    def test_arguments_that_are_no_names(self):
        for argument in ("@1", "@true", "@-x", "x @+ 1", "@s'first", "@v'last", "@not b", "(x @- 1)", "g(1) @+ x"):
            for text in ("o({});", "i({}, b);", "i(x, {});"):
                self.bad(WrongMode, text.format(argument))
        self.good("o((x)); o(((v(1)))); i((x), (b));")
        self.bad(WrongKind, "o((@f));")

    def test_arguments_of_the_mode_in_take_anything(self):
        self.good("q(x); q(c); q(1 + f); q(v(1)); r(d, c); x := g(c); for j in 1 .. 2 loop q(j); end loop;")

    def test_functions_have_parameters_of_the_mode_in(self):
        for mode in ("out", "in out"):
            self.bad(WrongMode, f"declare function z (@k : {mode} integer) return s is begin return 1; end; begin null; end;")
            self.bad(WrongMode, f"declare function z (j : s; @k : {mode} s) return s is begin return 1; end; begin null; end;")
        self.good("declare function z (j : in s; k : s) return s is begin return 1; end; begin null; end;")

    def test_subprograms_of_two_kinds(self):
        self.bad(WrongKind, "@f;")
        self.bad(WrongKind, "x := @p;")
        self.bad(Misplaced, "@return 1;")


if __name__ == "__main__":
    unittest.main()
