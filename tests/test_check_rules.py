"""Points [16], [17], [22] and [39]: bounds, ranges, and statements out of place."""

import unittest

from tests.helpers import SourceCase
from windowada.checkdecl import check
from windowada.declarations import parse
from windowada.errors import BadRange, Misplaced, TooLarge, UnknownName, WrongKind
from windowada.program import captured
from windowada.runcall import run_source


class RangesTest(SourceCase):

    def good(self, text):
        self.assert_accepted("procedure m is subtype s is integer range -3 .. 9; " + text + " begin null; end;")

    def bad(self, text):
        self.assert_rejected(BadRange, "procedure m is subtype s is integer range -3 .. 9; " + text + " begin null; end;")

    def test_subtypes(self):
        for mark, bounds in (
            ("integer", "1 .. 1"), ("integer", "-2147483647 .. 2147483647"), ("integer", "-5 .. -5"), ("s", "-3 .. 9"), ("s", "0 .. 0"),
            ("s", "9 .. 9"), ("s", "-3 .. -3"), ("integer", "-1 .. 0"),
        ):
            self.good(f"subtype z is {mark} range {bounds};")
        for mark, bounds in (
            ("integer", "1 .. 0"), ("integer", "-1 .. -2"), ("integer", "2147483647 .. -2147483647"), ("s", "-4 .. 9"), ("s", "-3 .. 10"),
            ("s", "10 .. 12"), ("s", "-9 .. -4"), ("s", "5 .. 4"), ("s", "-4 .. 10"),
        ):
            self.bad(f"subtype @z is {mark} range {bounds};")
        self.bad("subtype y is s range 1 .. 5; subtype @z is y range 1 .. 6;")
        self.bad("procedure q is subtype\n @z is s range 0 .. 10; begin null; end;")

    def test_arrays(self):
        for bounds in ("1 .. 1", "-1 .. 0", "0 .. 39", "2147483647 .. 2147483647", "-2147483647 .. -2147483608"):
            self.good(f"type z is array ({bounds}) of s;")
        for bounds in ("1 .. 0", "0 .. -1", "-5 .. -6", "2147483647 .. -2147483647"):
            self.bad(f"type @z is array ({bounds}) of s;")

    def test_choices(self):
        text = "procedure m is begin @case 1 is when 1 .. 2 => null; when {} => null; when others => null; end case; end;"
        for choice in ("1", "1 .. 1", "-2 .. -1", "1 | 1 | 1 .. 1", "-2147483647 .. 2147483647"):
            self.assert_accepted(text.replace("@", "").format(choice))
        for choice in ("2 .. 1", "-1 .. -2", "1 | 2 .. 1", "2 .. 1 | 1", "0 .. -1"):
            self.assert_rejected(BadRange, text.format(choice))
        self.assert_rejected(
            BadRange, "procedure m is begin loop\n @case 1 is when 2 .. 1 => null; when others => null; end case; end loop; end;",
        )


class MisplacedTest(SourceCase):

    def bad(self, text):
        self.assert_rejected(Misplaced, text)

    def test_exit(self):
        for statement in ("exit;", "exit when true;"):
            self.bad(f"procedure m is begin @{statement} end;")
            self.bad(f"procedure m is begin if true then @{statement} end if; end;")
            self.bad(f"procedure m is begin loop null; end loop; @{statement} end;")
            self.bad(f"procedure m is begin null; exception when others => @{statement} end;")
            self.bad(
                f"procedure m is begin loop declare procedure q is begin @{statement} end; begin null; end; end loop; end;",
            )
            for loop in ("loop", "while true loop", "for i in 1 .. 2 loop"):
                self.assert_accepted(f"procedure m is begin {loop} {statement} end loop; end;")
                self.assert_accepted(
                    f"procedure m is begin {loop} begin if true then {statement} end if; exception when others => {statement} end; "
                    f"case 1 is when others => {statement} end case; end loop; end;"
                )
                self.assert_accepted(f"procedure m is procedure q is begin {loop} {statement} end loop; end; begin null; end;")
            self.assert_accepted(f"procedure m is begin loop loop {statement} end loop; {statement} end loop; end;")

    def test_raise_without_a_name(self):
        for text in (
            "procedure m is begin @raise; end;", "procedure m is begin @raise; exception when others => null; end;",
            "procedure m is begin begin null; exception when others => raise; end; @raise; end;",
            "procedure m is begin null; exception when others => declare procedure q is begin @raise; end; begin q; end; end;",
            "procedure m is procedure q is begin @raise; end; begin null; exception when others => q; end;",
            "procedure m is begin begin @raise; exception when end_error => null; end; end;",
        ):
            self.bad(text)
        for text in (
            "procedure m is begin null; exception when others => raise; end;",
            "procedure m is begin null; exception when end_error => null; when others => loop if true then raise; end if; end loop; end;",
            "procedure m is begin null; exception when others => begin raise; exception when others => raise; end; raise; end;",
            "procedure m is begin begin null; exception when end_error => raise; end; end;",
            "procedure m is begin null; exception when others => declare procedure q is begin null; exception when others => raise; end; "
            "begin raise; end; end;",
        ):
            self.assert_accepted(text)

    def test_return(self):
        for text in (
            "procedure m is begin @return 1; end;", "procedure m is procedure q is begin @return 1; end; begin null; end;",
            "procedure m is function f return integer is begin @return; end; begin null; end;",
            "procedure m is function f return integer is begin return 1; exception when others => loop @return; end loop; end; begin null; end;",
            "procedure m is function f return integer is procedure q is begin @return 1; end; begin return 1; end; begin null; end;",
            "procedure m is procedure q is function f return integer is begin @return; end; begin return; end; begin return; end;",
            "procedure m is begin begin null; exception when others => @return true; end; end;",
        ):
            self.bad(text)
        self.assert_accepted(
            "procedure m is procedure q is begin return; exception when others => return; end; function f return boolean is "
            "procedure q is begin return; end; begin begin return true; end; loop return false; end loop; end; begin return; end;"
        )

    def test_others_is_the_last_handler(self):
        for text in (
            "@when others => null; when end_error => null;", "@when others => null; when others => null;",
            "when end_error => null; @when others => null; when storage_error => null;",
        ):
            self.bad("procedure m is begin null; exception " + text + " end;")
            self.bad("procedure m is begin begin null; exception " + text + " end; end;")
            self.bad("procedure m is function f return integer is begin return 1; exception " + text + " end; begin null; end;")
        self.assert_accepted("procedure m is begin null; exception when end_error => null; when others => null; end;")


def parameters(many):
    return "; ".join(f"a{at} : integer" for at in range(many))


class BoundsTest(SourceCase):

    def good(self, text):
        self.assert_accepted(text)

    def too_large(self, text):
        self.assert_error(TooLarge, None, check, parse(text))

    def test_parameters(self):
        for text in (
            "procedure m is procedure q ({}) is begin null; end; begin null; end;",
            "procedure m is function f ({}) return integer is begin return 1; end; begin null; end;",
        ):
            self.good(text.format(parameters(6)))
            self.too_large(text.format(parameters(7)))

    def test_elements(self):
        for low, high in ((1, 40), (-20, 19), (0, 39), (2147483608, 2147483647), (-2147483647, -2147483608)):
            self.good(f"procedure m is type t is array ({low} .. {high}) of integer; begin null; end;")
        for low, high in ((1, 41), (-20, 20), (0, 40), (-2147483647, 2147483647), (0, 2147483647)):
            self.too_large(f"procedure m is type t is array ({low} .. {high}) of integer; begin null; end;")
            self.too_large(f"procedure m is begin declare type t is array ({low} .. {high}) of boolean; begin null; end; end;")

    def test_choices(self):
        text = "procedure m is begin case 1 is when {} => null; when 1 => null; when others => null; end case; end;"
        for choice in ("1", "1 .. 3"):
            self.good(text.format(" | ".join([choice] * 10)))
            self.too_large(text.format(" | ".join([choice] * 11)))
        arms = "when 1 | 2 | 3 | 4 | 5 | 6 | 7 | 8 | 9 | 10 => null; " * 30
        self.good("procedure m is begin case 1 is " + arms + "when others => null; end case; end;")

    def test_subprograms(self):
        one = "procedure q{} is begin null; end; "
        for many, look in ((19, self.good), (20, self.too_large)):
            look("procedure m is " + "".join(one.format(at) for at in range(many)) + "begin null; end;")
            look("procedure m is begin " + "".join(
                "declare function f return integer is begin return 1; end; begin null; end; " for _ in range(many)
            ) + "end;")
            nested = "procedure p is " + "".join(one.format(at) for at in range(many - 1)) + "begin null; end; "
            look("procedure m is " + nested + "begin null; end;")

    def assert_room(self, text):
        """Looks at a text with {} for declarations in which there is room for one more variable."""
        self.good(text.format(""))
        self.good(text.format("z : integer; "))
        self.good(text.format("z : constant integer := 1; "))
        self.too_large(text.format("z : integer; zz : boolean; "))
        self.too_large(text.format("z : integer; zz : constant boolean := true; "))
        self.too_large(text.format("type zt is array (1 .. 2) of integer; z : zt; "))
        self.good(text.format("type zt is array (1 .. 40) of integer; subtype zs is integer range 1 .. 2; ze : exception; "))

    def test_variables(self):
        scalars = "".join(f"x{at} : integer; y{at} : constant boolean := true; " for at in range(19)) + "x : integer; "
        self.assert_room("procedure m is " + scalars + "{} begin null; end;")
        self.assert_room("procedure m is procedure q is " + scalars + "{} begin null; end; begin null; end;")
        array = "type t is array (-9 .. 9) of integer; v : t; w : t; x : integer; "
        self.assert_room("procedure m is " + array + "{} begin null; end;")
        self.assert_room("procedure m is begin declare " + array + "{} begin null; end; end;")
        self.assert_room("procedure m is " + array.replace("x : integer;", "") + "begin for i in 1 .. 2 loop declare {} begin null; end; end loop; end;")
        self.assert_room(
            "procedure m is " + array.replace("w : t;", "") + "begin declare w : t; begin null; end; "
            "begin null; exception when others => declare {} begin null; end; end; end;"
        )
        self.assert_room(
            "procedure m is procedure q (a : integer; b : out boolean) is type t is array (1 .. 37) of integer; v : t; {} begin null; end; "
            "w : boolean; begin null; end;"
        )

    def test_variables_of_blocks_side_by_side(self):
        block = "declare type t is array (1 .. 20) of integer; v : t; begin null; end; "
        self.good("procedure m is begin " + block * 2 + "end;")
        self.too_large("procedure m is begin " + block * 2 + "for i in 1 .. 2 loop null; end loop; end;")
        loops = "for i in 1 .. 2 loop null; end loop; "
        self.good("procedure m is begin " + loops * 40 + "end;")
        self.too_large("procedure m is begin " + loops * 41 + "end;")

    def test_variables_of_other_subprograms_do_not_count(self):
        array = "type t is array (1 .. 40) of integer; v : t; "
        self.good("procedure m is " + array + "procedure q is " + array + "begin null; end; procedure r is " + array + "begin null; end; begin null; end;")


class TreesTest(SourceCase):
    """Point [17]: check takes trees of any size and with any places."""

    def test_long_trees(self):
        at = (1, 1)
        null = ("null", at)
        put = ("put", ("name", "x", at), at)
        branches = tuple((("binary", "=", ("name", "x", at), ("number", n, at), at), (null,)) for n in range(3000))
        arms = tuple((((n, n),), (put,)) for n in range(1, 3000))
        tree = (
            "procedure", "m", (), (("variable", "x", "integer", ("number", 2999, at), at),)
            + tuple(("exception", f"e{n}", at) for n in range(3000)) + tuple(("subtype", f"s{n}", "integer", n, n, at) for n in range(3000)),
            (null,) * 5000 + (put,) * 3000 + (
                ("if", branches, (), at), ("case", ("name", "x", at), arms, (null,), at), ("raise", "e2999", at),
            ),
            (((tuple(f"e{n}" for n in range(2999))), (null,), at), (("e2999",), (put,), at)), at,
        )
        self.assertEqual(run_source(check(tree), [], fuel=20000), ((("put", 2999),) * 3002, ("normal",)))

    def test_places_are_only_passed_on(self):
        text = (
            "procedure m is type t is array (1 .. 2) of integer; v : t; e : exception; x : integer := 2; procedure q (a : in out integer) is "
            "function f return integer is begin return x; end; begin a := f + 1; x := 0; end; begin for i in 1 .. 2 loop for j in 1 .. 2 "
            "loop v(j) := v(j) + i; end loop; end loop; q(v(1)); put(v(1)); put(v(2)); begin raise e; exception when e => put(x); end; "
            "begin raise end_error; end; end;"
        )
        tree = parse(text)
        expected = run_source(check(tree), [], fuel=100)
        self.assertEqual(expected[0], (("put", 3), ("put", 3), ("put", 0)))
        for place in (lambda at: (1, 1), lambda at: (1000 - at[1], 10**12), lambda at: (at[1], at[0])):
            moved = self.moved(tree, place)
            program = check(moved)
            self.assertEqual(captured(program), captured(check(tree)))
            events, ending = run_source(program, [], fuel=100)
            self.assertEqual(events, expected[0])
            self.assertEqual(ending, ("raised", "end_error", *place(expected[1][2:])))

    def moved(self, tree, place):
        """Returns a tree whose places are others."""
        if not isinstance(tree, tuple) or not tree:
            return tree
        if len(tree) == 2 and all(type(part) is int for part in tree):
            return place(tree)
        return tuple(self.moved(part, place) for part in tree)

    def test_places_of_errors_are_those_of_the_tree(self):
        tree = ("procedure", "m", (), (), (("put", ("name", "x", (77, 5)), (3, 3)),), (), (9, 9))
        self.assert_error(UnknownName, (77, 5), check, tree)
        tree = ("procedure", "m", (), (), (("put", ("truth", True, (2, 10**9)), (3, 3)),), (), (9, 9))
        self.assert_error(WrongKind, (2, 10**9), check, tree)


class CapturedTest(unittest.TestCase):
    """Point [40]: which variables other subprograms use."""

    def assert_captured(self, text, *expected):
        self.assertEqual(captured(check(parse(text))), expected)

    def test_example(self):
        self.assert_captured(
            "procedure m is a : integer; b : integer; procedure p is begin put(b); end; begin put(a); end;", (1,), (),
        )

    def test_each_kind_of_place(self):
        for use in (
            "put(x);", "x := 1;", "get(x);", "o(x);", "i(x);", "put(1 + x);", "put(-x);", "put(f(x));", "v(x) := 1;", "put(v(x));",
            "get(v(x));", "if x = 1 then null; end if;", "if true then null; elsif x = 1 then null; end if;", "if true then put(x); end if;",
            "if true then null; else put(x); end if;", "while x = 1 loop null; end loop;", "loop put(x); end loop;",
            "for j in x .. 2 loop null; end loop;", "for j in 1 .. x loop null; end loop;", "for j in 1 .. 2 loop put(x); end loop;",
            "case x is when others => null; end case;", "case 1 is when 1 => put(x); when others => null; end case;",
            "case 1 is when others => put(x); end case;", "loop exit when x = 1; end loop;", "begin put(x); end;",
            "begin null; exception when others => put(x); end;", "declare y : integer := x; begin null; end;",
            "declare y : constant integer := x; begin null; end;", "q(x);",
        ):
            head = (
                "procedure m is type t is array (1 .. 2) of integer; w : integer; x : integer; procedure o (a : out integer) is begin null; end; "
                "procedure i (a : in out integer) is begin null; end; function f (a : integer) return integer is begin return a; end; "
                "procedure q (a : integer) is begin null; end; procedure p is v : t; begin "
            )
            self.assert_captured(head + use + " end; begin w := 1; end;", (1,), (), (), (), (), ())
        self.assert_captured(
            "procedure m is x : integer; function p return integer is begin return x; exception when others => return 1; end; begin null; end;",
            (0,), (),
        )
        self.assert_captured(
            "procedure m is x : integer; procedure p is y : integer := x; begin null; exception when others => null; end; begin null; end;",
            (0,), (),
        )
        self.assert_captured(
            "procedure m is x : integer; procedure p is begin null; exception when others => x := 1; end; begin null; end;", (0,), (),
        )

    def test_elements(self):
        for use in ("v(1) := 1;", "put(v(1));", "get(v(1));", "o(v(1));"):
            self.assert_captured(
                "procedure m is type t is array (1 .. 2) of integer; u : t; v : t; procedure o (a : out integer) is begin null; end; "
                "procedure p is begin " + use + " end; begin u(1) := 1; end;", (1,), (), (),
            )

    def test_an_attribute_uses_nothing(self):
        self.assert_captured(
            "procedure m is type t is array (1 .. 2) of integer; v : t; procedure p is begin put(v'first); put(v'last + t'first); end; "
            "begin null; end;", (), (),
        )

    def test_own_uses_do_not_count(self):
        self.assert_captured(
            "procedure m is x : integer; procedure p (a : integer) is y : integer := a; begin y := a; for i in 1 .. y loop put(i); end loop; end; "
            "begin p(x); x := 1; end;", (), (),
        )

    def test_all_kinds_of_variables_are_numbered_in_their_order(self):
        self.assert_captured(
            "procedure m is type t is array (1 .. 3) of integer; procedure p (a : integer; b : out integer; c : in out integer) is "
            "d : constant integer := 1; v : t; e : exception; subtype s is integer range 1 .. 2; g : integer; "
            "procedure q is begin put(a + c + v(1)); end; begin for i in 1 .. 2 loop declare h : integer; procedure r is begin put(i); h := g; end; "
            "begin for j in 1 .. 2 loop declare procedure w is begin put(j); end; begin null; end; end loop; "
            "exception when others => declare k : integer; l : integer; procedure z is begin l := d; end; begin null; end; end; end loop; "
            "exception when others => declare n : constant integer := 1; procedure y is begin put(n); end; begin null; end; end; begin null; end;",
            (), (0, 2, 3, 4, 5, 6, 7, 8, 10, 11), (), (), (), (), (),
        )

    def test_subprograms_are_numbered_in_their_order(self):
        self.assert_captured(
            "procedure m is x : integer; procedure a is y : integer; z : integer; function b return integer is u : integer; "
            "procedure c is begin u := z; x := 1; end; begin return y; end; procedure d is begin null; end; begin null; end; w : integer; "
            "procedure e is begin w := x; end; begin declare t : integer; v : integer; procedure g is begin v := 1; end; begin null; end; end;",
            (0, 1, 3), (0, 1), (0,), (), (), (), (),
        )

    def test_hidden_names(self):
        self.assert_captured(
            "procedure m is x : integer; y : integer; procedure p (x : integer) is begin put(x); declare y : integer; begin y := x; end; "
            "for y in 1 .. 2 loop put(y); end loop; end; begin null; end;", (), (),
        )
        self.assert_captured(
            "procedure m is x : integer; procedure p is y : integer := x; x : integer; procedure q is begin put(x); end; begin null; end; begin null; end;",
            (0,), (1,), (),
        )
        self.assert_captured(
            "procedure m is x : integer; begin declare x : integer; procedure p is begin put(x); end; begin null; end; "
            "declare x : integer; begin x := 1; end; end;", (1,), (),
        )

    def test_uses_by_two_subprograms_and_by_the_own_one(self):
        self.assert_captured(
            "procedure m is x : integer; procedure p is begin x := x; end; procedure q is begin x := x; end; begin x := x; end;", (0,), (), (),
        )

    def test_a_use_in_an_inner_subprogram_is_not_one_of_the_outer(self):
        self.assert_captured(
            "procedure m is procedure p is x : integer; procedure q is procedure r is begin x := 1; end; begin null; end; begin null; end; begin null; end;",
            (), (0,), (), (),
        )

    def test_an_argument_of_an_outer_subprogram(self):
        self.assert_captured(
            "procedure m is procedure p (a : in out integer) is procedure q (b : in out integer) is begin if b > 0 then q(a); p(b); end if; end; "
            "begin q(a); end; begin null; end;", (), (0,), (),
        )


if __name__ == "__main__":
    unittest.main()
