"""Points [18], [21] as far as names go, [22] for exceptions named twice, and [39]: which declaration a name means."""

import unittest

from tests.helpers import SourceCase, put_by
from windowada.checkdecl import check
from windowada.declarations import parse
from windowada.errors import DuplicateName, UnknownName, WrongKind
from windowada.program import Program

PREDEFINED = ("integer", "boolean", "constraint_error", "program_error", "storage_error", "end_error")


class UnknownNamesTest(SourceCase):

    def assert_unknown(self, text):
        self.assert_rejected(UnknownName, text)

    def test_example(self):
        self.assert_unknown("procedure m is begin put(@a); end;")

    def test_in_each_position_of_a_statement(self):
        for text in (
            "@z := 1;", "@z(1) := 1;", "x := @z;", "v(@z) := 1;", "v(1) := @z;", "put(1 + @z);", "put(@z + 1);", "put(-@z);",
            "put(@z'first);", "put(@z'last);", "put(@z(1));", "put(f(@z));", "put(v(@z));", "get(@z);", "get(@z(1));", "get(v(@z));",
            "@z;", "@z(1);", "q(@z);", "o(@z);", "o(@z(1));", "o(v(@z));", "if @z then null; end if;",
            "if true then null; elsif @z then null; end if;", "if true then @z; end if;", "if true then null; else @z; end if;",
            "while @z loop null; end loop;", "while true loop @z; end loop;", "loop @z; end loop;",
            "for i in @z .. 1 loop null; end loop;", "for i in 1 .. @z loop null; end loop;", "for i in 1 .. 2 loop @z; end loop;",
            "for i in reverse 1 .. @i loop null; end loop;", "case @z is when others => null; end case;",
            "case 1 is when 1 => @z; when others => null; end case;", "case 1 is when others => @z; end case;",
            "loop exit when @z; end loop;", "@raise z;", "begin @z; end;", "begin null; exception @when z => null; end;",
            "begin null; exception @when end_error | z => null; end;", "begin null; exception when others => @z; end;",
        ):
            self.assert_unknown(
                "procedure m is type t is array (1 .. 2) of integer; x : integer; v : t; "
                "function f (a : integer) return integer is begin return a; end; "
                "procedure q (a : integer) is begin null; end; procedure o (a : out integer) is begin null; end; "
                "begin\n" + text + " end;"
            )

    def test_in_each_position_of_a_declaration(self):
        for text in (
            "@x : z;", "x : integer := @z;", "@x : constant z := 1;", "x : constant integer := @z;", "subtype @x is z range 1 .. 2;",
            "type @x is array (1 .. 2) of z;", "procedure q (@a : z) is begin null; end;",
            "procedure q (a : integer; @b : out z) is begin null; end;", "function @f return z is begin null; end;",
            "function f (@a : z) return integer is begin null; end;", "function f return integer is begin return @z; end;",
            "procedure q is @y : z; begin null; end;", "procedure q is begin null; exception @when z => null; end;",
        ):
            self.assert_unknown("procedure m is\n" + text + " begin null; end;")

    def test_a_declaration_is_visible_from_its_end(self):
        for text in (
            "x : integer := @x;", "x : constant integer := @x;", "subtype @x is x range 1 .. 2;",
            "type @x is array (1 .. 2) of x;", "@x : x;", "x : integer := @y; y : integer;",
            "procedure q is begin @r; end; procedure r is begin null; end;", "procedure q is begin put(@y); end; y : integer;",
            "procedure q (@a : s) is begin null; end; subtype s is integer range 1 .. 2;", "procedure q (@q : q) is begin null; end;",
            "procedure q (a : integer; @b : a) is begin null; end;", "procedure q (@a : q) is begin null; end;",
            "function @f return f is begin return 1; end;", "function @f (a : integer) return a is begin return 1; end;",
            "procedure q is x : integer := @y; y : integer; begin null; end;",
            "procedure q is begin @raise e; end; e : exception;",
        ):
            self.assert_unknown("procedure m is\n" + text + " begin null; end;")

    def test_a_region_that_is_left(self):
        for text in (
            "procedure m is procedure q is x : integer; begin null; end; begin put(@x); end;",
            "procedure m is procedure q (x : integer) is begin null; end; begin put(@x); end;",
            "procedure m is procedure q is procedure r is begin null; end; begin null; end; begin @r; end;",
            "procedure m is begin declare x : integer; begin null; end; put(@x); end;",
            "procedure m is begin begin declare x : integer; begin null; end; exception when others => put(@x); end; end;",
            "procedure m is begin for i in 1 .. 2 loop null; end loop; put(@i); end;",
            "procedure m is begin for i in @i .. 2 loop null; end loop; end;",
            "procedure m is begin for i in 1 .. 2 loop null; end loop; for j in 1 .. @i loop null; end loop; end;",
            "procedure m is x : integer := @i; begin for i in 1 .. 2 loop null; end loop; end;",
        ):
            self.assert_unknown(text)

    def test_the_name_of_the_main_program_is_visible_nowhere(self):
        for text in (
            "procedure m is begin @m; end;", "procedure m is procedure q is begin @m; end; begin null; end;",
            "procedure m is @x : m; begin null; end;", "procedure m is begin put(@m); end m;",
        ):
            self.assert_unknown(text)
        self.assert_accepted("procedure m is m : integer; begin m := 1; end m;")
        self.assert_accepted("procedure m is procedure m is begin m; end m; begin m; end m;")
        for name in PREDEFINED:
            self.assert_accepted(f"procedure {name} is x : integer; begin raise constraint_error; end {name};")
        self.assertEqual(
            put_by("procedure integer is x : integer := 1; begin put(x); put(integer'first); end integer;"),
            ([1, -2147483648], ("normal",)),
        )


class DuplicateNamesTest(SourceCase):

    DECLARATIONS = (
        "{}a : integer; ", "{}a : constant integer := 1; ", "{}a : exception; ", "subtype {}a is integer range 1 .. 2; ",
        "type {}a is array (1 .. 2) of integer; ", "procedure {}a is begin null; end; ",
        "function {}a return integer is begin return 1; end; ",
    )

    def assert_duplicate(self, text):
        self.assert_rejected(DuplicateName, text)

    def test_each_pair_of_declarations(self):
        for first in self.DECLARATIONS:
            for second in self.DECLARATIONS:
                twice = first.format("") + second.format("@")
                self.assert_duplicate("procedure m is " + twice + "begin null; end;")
                self.assert_duplicate("procedure m is procedure q is " + twice + "begin null; end; begin null; end;")
                self.assert_duplicate("procedure m is begin declare " + twice + "begin null; end; end;")

    def test_parameters(self):
        self.assert_duplicate("procedure m is procedure q (a : integer; @a : boolean) is begin null; end; begin null; end;")
        self.assert_duplicate("procedure m is procedure q (a : in out integer; b : integer; @a : out integer) is begin null; end; begin null; end;")
        for declaration in self.DECLARATIONS:
            text = declaration.format("@")
            self.assert_duplicate("procedure m is procedure q (a : integer) is " + text + "begin null; end; begin null; end;")
            text = "function f (a : integer) return integer is " + text + "begin return 1; end; "
            self.assert_duplicate("procedure m is " + text + "begin null; end;")

    def test_predefined_names(self):
        for name in PREDEFINED:
            for declaration in self.DECLARATIONS:
                text = declaration.replace("}a", "}" + name).format("@")
                self.assert_duplicate("procedure m is " + text + "begin null; end;")
                self.assert_duplicate("procedure m is begin declare " + text + "begin null; end; end;")
            for text in (
                "procedure m is procedure q (@{} : integer) is begin null; end; begin null; end;",
                "procedure m is begin @for {} in 1 .. 2 loop null; end loop; end;",
            ):
                self.assert_duplicate(text.format(name))
            self.assert_duplicate(f"procedure {name} is @{name} : integer; begin null; end;")

    def test_other_regions_do_not_matter(self):
        self.assert_accepted(
            "procedure m is a : integer; procedure q (a : boolean) is begin declare a : exception; begin "
            "for a in 1 .. 2 loop for a in 1 .. a loop declare procedure a is begin null; end; begin a; end; end loop; end loop; "
            "end; end; procedure r is subtype a is integer range 1 .. 2; begin null; end; begin declare a : boolean; begin null; end; "
            "declare a : integer; begin null; end; for a in 1 .. 2 loop null; end loop; end;"
        )
        self.assert_accepted("procedure m is procedure a (a : integer) is begin put(a); end; begin a(1); end;")
        self.assert_accepted("procedure m is procedure q is q : integer; begin q := 1; end; begin q; end;")

    def test_the_region_of_a_block_has_its_handlers(self):
        self.assert_accepted("procedure m is begin declare x : integer; begin null; exception when others => put(x); end; end;")
        self.assert_accepted("procedure m is x : integer; e : exception; begin null; exception when e => put(x); end;")

    def test_exceptions_named_twice_in_the_handlers_of_one_body(self):
        for text in (
            "exception when e => null; @when e => null;", "exception @when e | e => null;",
            "exception when end_error => null; when e => null; @when storage_error | end_error => null; when others => null;",
            "exception when e | end_error => null; @when end_error | storage_error => null;",
        ):
            self.assert_duplicate("procedure m is e : exception; begin null; " + text + " end;")
            self.assert_duplicate("procedure m is e : exception; begin begin null; " + text + " end; end;")
        self.assert_accepted(
            "procedure m is e : exception; begin begin null; exception when e => begin null; exception when e => null; end; end; "
            "exception when e => begin null; exception when e | end_error => null; end; when others => null; end;"
        )


class MeaningsTest(SourceCase):
    """Which declaration a name means, seen in what the program does."""

    def assert_puts(self, text, words):
        self.assertEqual(put_by(text), (words, ("normal",)))

    def test_inner_names_hide_outer_ones(self):
        self.assert_puts(
            "procedure m is x : integer := 1; procedure q (x : integer) is begin put(x); declare x : integer := 3; "
            "begin put(x); for x in 4 .. 4 loop put(x); end loop; put(x); end; put(x); end; begin q(2); put(x); end;",
            [2, 3, 4, 3, 2, 1],
        )

    def test_the_outer_name_is_meant_before_the_end_of_the_declaration(self):
        self.assert_puts(
            "procedure m is x : integer := 5; begin put(x); declare y : integer := x; x : integer := x + 1; begin put(x + y); end; end;",
            [5, 11],
        )
        self.assert_puts(
            "procedure m is i : integer := 2; begin for i in i .. i + 1 loop put(i); end loop; end;", [2, 3],
        )

    def test_a_subprogram_means_what_was_visible_before_it(self):
        self.assert_puts(
            "procedure m is x : integer := 1; procedure q is procedure r is begin put(x); end; x : integer := 2; "
            "procedure s is begin put(x); end; begin r; s; end; begin q; end;", [1, 2],
        )

    def test_names_in_a_parameter_list_and_a_result_mark(self):
        self.assert_accepted(
            "procedure m is subtype t is integer range 1 .. 9; begin declare procedure t (a : t) is begin null; end; begin null; end; "
            "declare function t (t : t; u : t) return t is begin return t; end; begin null; end; end;"
        )
        self.assert_rejected(
            WrongKind, "procedure m is subtype t is integer range 1 .. 9; procedure q (t : t) is @x : t; begin null; end; begin null; end;",
        )

    def test_a_name_that_hides_makes_another_kind(self):
        self.assert_rejected(WrongKind, "procedure m is x : integer; begin declare x : boolean; begin put(@x); end; end;")
        self.assert_rejected(WrongKind, "procedure m is x : integer; procedure q (x : boolean) is begin put(@x); end; begin null; end;")
        self.assert_rejected(WrongKind, "procedure m is procedure x is begin null; end; begin for x in 1 .. 2 loop @x; end loop; end;")
        self.assert_rejected(WrongKind, "procedure m is e : exception; begin declare e : integer; begin @raise e; end; end;")
        self.assert_rejected(
            WrongKind, "procedure m is subtype t is integer range 1 .. 2; begin declare t : integer; begin put(@t'first); end; end;",
        )

    def test_a_subprogram_is_visible_in_itself_and_behind_itself(self):
        self.assert_puts(
            "procedure m is function f (n : integer) return integer is begin if n = 0 then return 1; end if; return n * f(n - 1); end; "
            "procedure q is begin put(f(3)); end; begin q; put(f(4)); end;", [6, 24],
        )
        self.assert_accepted("procedure m is procedure q is procedure r is begin q; end; begin r; end; begin null; end;")

    def test_predefined_names_are_visible_everywhere(self):
        self.assert_accepted(
            "procedure m is procedure q (a : integer) is function f return boolean is x : integer; begin raise end_error; end; "
            "begin null; exception when constraint_error | program_error | storage_error | end_error => null; end; begin null; end;"
        )

    def test_check_returns_a_program_and_keeps_the_tree(self):
        text = "procedure m is x : integer := 1; begin put(x); end;"
        tree = parse(text)
        self.assertIs(type(check(tree)), Program)
        self.assertIs(type(check(tree)), Program)
        self.assertEqual(tree, parse(text))
        bad = parse("procedure m is begin put(x); end;")
        for _ in range(2):
            self.assert_error(UnknownName, (1, 26), check, bad)


if __name__ == "__main__":
    unittest.main()
