"""Points [13] to [15], [17], [32] and [33] for programs."""

import unittest

from tests.helpers import SourceCase, strip_places
from windowada.declarations import parse
from windowada.errors import ParseError, ScanError, TooLarge

P = (0, 0)
NULL = (("null", P),)


def statement_of(text):
    """Returns the only statement of a program, with its places; the program has line 1 for itself."""
    tree = parse("procedure p is begin\n" + text + "\nend p;")
    assert len(tree[4]) == 1
    return tree[4][0]


def declaration_of(text):
    """Returns the only declaration of a program, with its places."""
    tree = parse("procedure p is\n" + text + "\nbegin null; end p;")
    assert len(tree[3]) == 1
    return tree[3][0]


class TreesTest(SourceCase):

    def assert_statement(self, text, tree):
        self.assertEqual(statement_of(text), tree)

    def assert_declaration(self, text, tree):
        self.assertEqual(declaration_of(text), tree)

    def test_example(self):
        self.assertEqual(
            parse("procedure p is begin null; end;"), ("procedure", "p", (), (), (("null", (1, 22)),), (), (1, 11)),
        )

    def test_program(self):
        for ending in ("end", "end main"):
            text = "procedure main is a : integer; begin null; a := 1; exception when others => null; " + ending + ";"
            self.assertEqual(strip_places(parse(text)), (
                "procedure", "main", (), (("variable", "a", "integer", None, P),),
                (("null", P), ("assign", ("name", "a", P), ("number", 1, P), P)), ((None, NULL, P),), P,
            ))

    def test_objects(self):
        self.assert_declaration(" x : t;", ("variable", "x", "t", None, (2, 2)))
        self.assert_declaration("x : t := 1;", ("variable", "x", "t", ("number", 1, (2, 10)), (2, 1)))
        self.assert_declaration("x : constant t := 1;", ("constant", "x", "t", ("number", 1, (2, 19)), (2, 1)))
        self.assert_declaration("x : exception;", ("exception", "x", (2, 1)))

    def test_marks(self):
        self.assert_declaration(" subtype s is t range 1 .. 02;", ("subtype", "s", "t", 1, 2, (2, 10)))
        self.assert_declaration("subtype s is t range - 1..-2;", ("subtype", "s", "t", -1, -2, (2, 9)))
        self.assert_declaration("type a is array (1 .. 3) of t;", ("array", "a", 1, 3, "t", (2, 6)))
        self.assert_declaration(
            "type a is array (-2147483647 .. 2147483647) of t;", ("array", "a", -2147483647, 2147483647, "t", (2, 6)),
        )
        self.assertEqual(declaration_of("subtype s is t range -0 .. 0;")[3], 0)

    def test_subprograms(self):
        self.assert_declaration("procedure q is\nbegin null; end;", (
            "procedure", "q", (), (), (("null", (3, 7)),), (), (2, 11),
        ))
        self.assert_declaration("function f return t is x : t;\nbegin return 1; end f;", (
            "function", "f", (), "t", (("variable", "x", "t", None, (2, 24)),),
            (("return", ("number", 1, (3, 14)), (3, 7)),), (), (2, 10),
        ))
        self.assert_declaration(
            "procedure q (a : t; b : in t;\nc : out t; d : in out t) is\nbegin null; exception when x => null; end;", (
                "procedure", "q",
                (("a", "in", "t", (2, 14)), ("b", "in", "t", (2, 21)), ("c", "out", "t", (3, 1)),
                 ("d", "in out", "t", (3, 12))),
                (), (("null", (4, 7)),), ((("x",), (("null", (4, 33)),), (4, 23)),), (2, 11),
            ),
        )
        self.assertEqual(declaration_of("function f (a : t) return u is begin null; end;")[2:4], (
            (("a", "in", "t", (2, 13)),), "u",
        ))

    def test_handlers(self):
        tree = parse("procedure p is begin null; exception\n when a | b | a => null;\n when others => null; null;\nend;")
        self.assertEqual(tree[5], (
            (("a", "b", "a"), (("null", (2, 20)),), (2, 2)),
            (None, (("null", (3, 17)), ("null", (3, 23))), (3, 2)),
        ))
        tree = parse("procedure p is begin null; exception when others => null; when a => null; end;")
        self.assertEqual([handler[0] for handler in tree[5]], [None, ("a",)])

    def test_simple_statements(self):
        self.assert_statement(" null;", ("null", (2, 2)))
        self.assert_statement("x := 1;", ("assign", ("name", "x", (2, 1)), ("number", 1, (2, 6)), (2, 1)))
        self.assert_statement("x(i) := 1;", (
            "assign", ("apply", "x", (("name", "i", (2, 3)),), (2, 1)), ("number", 1, (2, 9)), (2, 1),
        ))
        self.assert_statement("put(1);", ("put", ("number", 1, (2, 5)), (2, 1)))
        self.assert_statement("get(x);", ("get", ("name", "x", (2, 5)), (2, 1)))
        self.assert_statement("get(x(1));", ("get", ("apply", "x", (("number", 1, (2, 7)),), (2, 5)), (2, 1)))
        self.assert_statement("q;", ("call", "q", (), (2, 1)))
        self.assert_statement("q(1);", ("call", "q", (("number", 1, (2, 3)),), (2, 1)))
        self.assert_statement("q((a), b);", ("call", "q", (("name", "a", (2, 4)), ("name", "b", (2, 8))), (2, 1)))
        self.assert_statement("exit;", ("exit", None, (2, 1)))
        self.assert_statement("exit when a;", ("exit", ("name", "a", (2, 11)), (2, 1)))
        self.assert_statement("return;", ("return", None, (2, 1)))
        self.assert_statement("return a;", ("return", ("name", "a", (2, 8)), (2, 1)))
        self.assert_statement("raise;", ("raise", None, (2, 1)))
        self.assert_statement("raise a;", ("raise", "a", (2, 1)))

    def test_if(self):
        self.assert_statement("if a then null; end if;", (
            "if", ((("name", "a", (2, 4)), (("null", (2, 11)),)),), (), (2, 1),
        ))
        self.assertEqual(
            strip_places(statement_of("if a then null; elsif b then x; null; elsif c then null; else y; end if;")), (
                "if",
                ((("name", "a", P), NULL), (("name", "b", P), (("call", "x", (), P), *NULL)), (("name", "c", P), NULL)),
                (("call", "y", (), P),), P,
            ),
        )

    def test_loops(self):
        self.assert_statement("while a loop null; end loop;", (
            "while", ("name", "a", (2, 7)), (("null", (2, 14)),), (2, 1),
        ))
        self.assert_statement("loop null; end loop;", ("loop", (("null", (2, 6)),), (2, 1)))
        for text, backward in (("", False), ("reverse ", True)):
            tree = statement_of("for i in " + text + "1 .. n + 1 loop null; end loop;")
            self.assertIs(tree[2], backward)
            self.assertEqual(strip_places(tree), (
                "for", "i", backward, ("number", 1, P), ("binary", "+", ("name", "n", P), ("number", 1, P), P), NULL, P,
            ))
            self.assertEqual(tree[-1], (2, 1))

    def test_case(self):
        self.assert_statement("case a is when others => null; end case;", (
            "case", ("name", "a", (2, 6)), (), (("null", (2, 26)),), (2, 1),
        ))
        tree = statement_of("case a is when 1 | -2 | 3 .. 4 | -6 .. -5 => x; when 7 => null; when others => null; end case;")
        self.assertEqual(strip_places(tree), (
            "case", ("name", "a", P),
            ((((1, 1), (-2, -2), (3, 4), (-6, -5)), (("call", "x", (), P),)), (((7, 7),), NULL)), NULL, P,
        ))

    def test_blocks(self):
        self.assert_statement("begin null; end;", ("block", (), (("null", (2, 7)),), (), (2, 1)))
        self.assert_statement("declare begin null; end;", ("block", (), (("null", (2, 15)),), (), (2, 1)))
        self.assertEqual(strip_places(statement_of("declare x : t; begin null; exception when a => null; end;")), (
            "block", (("variable", "x", "t", None, P),), NULL, ((("a",), NULL, P),), P,
        ))

    def test_results_are_tuples(self):
        def look(part):
            self.assertIn(type(part), (tuple, str, int, bool, type(None)))
            if type(part) is tuple:
                for inner in part:
                    look(inner)
        look(parse(
            "procedure p is x : t; procedure q (a : t) is begin null; end; begin case x is when 1 => q(1); "
            "when others => if true then null; end if; end case; exception when a | b => null; end;"
        ))


class FaultsTest(SourceCase):

    def assert_no_program(self, text):
        self.assert_parse_error(ParseError, text)

    def test_whole_programs(self):
        for text in (
            "@", "--\n@", "@begin null; end;", "procedure @is begin null; end;", "procedure p @begin null; end;",
            "procedure p @(a : t) is begin null; end;", "procedure p is @end p;", "procedure p is begin @end;",
            "procedure p is begin null@", "procedure p is begin null @end;", "procedure p is begin null; end@",
            "procedure p is begin null; end p@", "procedure p is begin null; end; @x", "procedure p is begin null; end; @;",
            "procedure p is begin null; end p @p;", "procedure p is begin null; end @q;", "procedure p is begin null; end @p2;",
            "procedure p is begin null; exception @end;", "@function p is begin null; end;",
            "procedure p is begin null; exception when a => @end;", "procedure @put is begin null; end;",
            "procedure p is begin null; end;\n@procedure q is begin null; end;",
            "procedure p is begin null; @when a => null; end;", "procedure p is begin null; end @is",
        ):
            self.assert_no_program(text)

    def test_declarations(self):
        for text in (
            "x @integer;", "x : @;", "x : integer @= 1;", "x : integer := @;", "x : constant @:= 1;", "x : constant integer @;",
            "x : exception @:= 1;", "x@, y : integer;", "subtype s is integer @;", "subtype s is integer range @x .. 2;",
            "subtype s is integer range 1 .. @x;", "subtype s is integer range 1 .. 2 @+ 1;",
            "subtype s is integer range - @- 1 .. 2;", "subtype @1 is integer range 1 .. 2;", "type t is @integer;",
            "type t is array @1 .. 2 of integer;", "type t is array (1 @) of integer;",
            "type t is array (1 .. 2 @, 1 .. 2) of integer;", "type t is array (1 .. 2) of @array;",
            "type t is array (1 .. 2) @integer;", "procedure q (@) is begin null; end;", "procedure q (a @) is begin null; end;",
            "procedure q (a : out @in integer) is begin null; end;", "procedure q (a : in @in integer) is begin null; end;",
            "procedure q (a : integer @, b : integer) is begin null; end;", "procedure q (a : integer; @) is begin null; end;",
            "procedure q (a : integer @:= 1) is begin null; end;", "procedure q @return integer is begin null; end;",
            "function f @is begin null; end;", "function f return @is begin null; end;", "procedure q @; ",
            "function f return integer is begin null; end @g;", "procedure q is begin null; end q @is",
            "procedure q is begin null; end @p;", "@null;", "@if", "x : @in integer;", "x : @range 1 .. 2;", "x : @array;",
        ):
            self.assert_no_program("procedure p is " + text + " begin null; end;")
        self.assert_no_program("procedure p is x : integer@")

    def test_statements(self):
        for text in (
            "x @= 1;", "x := @;", "x := 1 @null;", "x @y;", "x(@) := 1;", "x(1, 2) @:= 1;", "x(1)@(2) := 1;", "x(1) @+ 1;", "@1;",
            "@true;", "@(x);", "x @+ 1;", "x@'first;", "put @x;", "put(@);", "put(x @, y);", "get(@1);", "get(x @+ 1);",
            "get(x(1 @, 2));", "get(@(x));", "get @x;", "if @then null; end if;", "if a @null; end if;", "if a then @end if;",
            "if a then null; end @;", "if a then null; else @end if;", "@else null;", "null; @elsif",
            "if a then null; else null; @elsif b then null; end if;", "if a then null; else null; @else null;",
            "if a then null; end @loop;", "if a then null; @when", "while a @null;", "while @loop", "loop @end loop;",
            "loop null; end @;", "loop null; end loop @p;", "for @1 in 1 .. 2 loop null; end loop;", "for i @:= 1;",
            "for i in 1 @loop null; end loop;", "for i in 1 .. @loop", "for i in @.. 2", "for @reverse i in 1 .. 2 loop",
            "for i in reverse @reverse 1 .. 2", "for i in 1 .. 2 @.. 3 loop", "case a is @end case;", "case a is @null;",
            "case a is when 1 => null; @end case;", "case a is when @x => null;", "case a is when 1 .. 2 @.. 3 => null;",
            "case a is when 1 | @others => null;", "case a is when others @| 1 => null;", "case a is when - @x => null;",
            "case a is when others => null; @when 1 => null;", "case a is when others => @end case;",
            "case a is when 1 @: null;", "case a is when others => null; end @if;", "exit @a;", "exit when @;", "return @null;",
            "return a @b;", "raise @1;", "raise a @(1);", "raise a @, b;", "begin null; end @x;", "begin null; end @loop;",
            "declare @null;", "declare x : t; @end;", "declare @declare x : t; begin null; end;", "begin null; exception @null;",
            "begin null; exception when @1 => null;", "begin null; exception when a @, b => null;",
            "begin null; exception when a | @others => null;", "begin null; exception when others @| a => null;",
            "begin null; exception when a => @when b => null;", "null @null;", "@;", "null; @;", "@exception", "@end", "@is",
            "@procedure q is begin null; end;", "@function", "x @: integer;", "@abs 1;", "@not a;", "@others;", "@in", "@then",
            "first @last;", "x := a and b @or c;", "x := 1 < 2 @< 3;", "put(a and then b and @c);", "a(1)@(2) := 1;",
        ):
            self.assert_no_program("procedure p is begin " + text + " null; end;")

    def test_scan_error_comes_first(self):
        for text in ("@A", "procedure p is begin end; @A", "x y z\n @1a", "procedure p is begin null; end; @a_"):
            self.assert_parse_error(ScanError, text)


def nested(opening, closing, many):
    """Returns statements inside of one another, many of them."""
    return opening * (many - 1) + "null; " + closing * (many - 1)


class BoundsTest(SourceCase):

    NESTS = (
        ("if a then ", "end if; "), ("if a then null; elsif b then ", "end if; "), ("if a then null; else ", "end if; "),
        ("while a loop ", "end loop; "), ("loop ", "end loop; "), ("for i in 1 .. 2 loop ", "end loop; "), ("begin ", "end; "),
        ("declare a : t; begin ", "end; "), ("case a is when 1 => ", "when others => null; end case; "),
        ("case a is when others => ", "end case; "), ("begin null; exception when a => ", "end; "),
        ("begin null; exception when a => null; when others => ", "end; "),
    )

    def test_depth_of_statements(self):
        for opening, closing in self.NESTS:
            for before in ("", "null; exception when others => "):
                parse("procedure p is begin " + before + nested(opening, closing, 5) + "end;")
                text = "procedure p is begin " + before + nested(opening, closing, 6) + "end;"
                self.assert_error(TooLarge, None, parse, text)

    def test_statements_of_a_subprogram_start_again(self):
        inner = "procedure q is begin " + nested("loop ", "end loop; ", 5) + "end; "
        parse("procedure p is " + inner + "begin null; end;")
        for many, kind in ((4, None), (5, TooLarge)):
            text = "procedure p is begin " + "loop " * (many - 1) + "declare " + inner + "begin null; end; "
            text += "end loop; " * (many - 1) + "end;"
            if kind is None:
                parse(text)
            else:
                self.assert_error(kind, None, parse, text)
        inner = inner.replace("null;", "loop null; end loop;")
        self.assert_error(TooLarge, None, parse, "procedure p is " + inner + "begin null; end;")

    def test_depth_of_subprograms(self):
        for form in ("procedure q is ", "function q (a : t) return t is "):
            for many, kind in ((4, None), (5, TooLarge)):
                text = "procedure p is " + form * (many - 1) + "begin null; end; " * many
                if kind is None:
                    parse(text)
                else:
                    self.assert_error(kind, None, parse, text)
        text = "procedure p is begin declare procedure q is begin declare procedure q is begin declare procedure q is %s"
        text += "begin null; end; begin null; end; end; begin null; end; end; begin null; end; end;"
        parse(text % "")
        self.assert_error(TooLarge, None, parse, text % "procedure q is begin null; end; ")
        parse("procedure p is " + "procedure q is begin null; end; " * 30 + "begin null; end;")

    PLACES = (
        "x := {};", "x : t := {};", "x : constant t := {};", "put({});", "q({});", "q(1, {}, 2);", "if {} then null; end if;",
        "if a then null; elsif {} then null; end if;", "while {} loop null; end loop;", "for i in {} .. 1 loop null; end loop;",
        "for i in 1 .. {} loop null; end loop;", "for i in reverse {} .. 1 loop null; end loop;", "exit when {};", "return {};",
        "case {} is when others => null; end case;", "x(1) := {};",
    )
    INDEXES = ("x({}) := 1;", "get(x({}));")

    def program(self, place, expression):
        text = place.format(expression)
        if place.startswith("x :") and not place.startswith("x :="):
            return "procedure p is " + text + " begin null; end;"
        return "procedure p is begin " + text + " end;"

    def test_depth_of_expressions(self):
        for deep, places in ((6, self.PLACES), (5, self.INDEXES)):
            for place in places:
                for made in (
                    lambda many: "- " * (many - 1) + "1", lambda many: "1" + " + 1" * (many - 1),
                    lambda many: "f(" * (many - 1) + "a" + ")" * (many - 1),
                    lambda many: "(1 + " * (many - 1) + "a'first" + ")" * (many - 1),
                ):
                    parse(self.program(place, made(deep)))
                    self.assert_error(TooLarge, None, parse, self.program(place, made(deep + 1)))

    def test_brackets(self):
        for place in self.PLACES + self.INDEXES:
            parse(self.program(place, "(" * 12 + "a" + ")" * 12))
            self.assert_error(TooLarge, None, parse, self.program(place, "(" * 13 + "a" + ")" * 13))
        parse(self.program("q({0}, {0});", "(" * 12 + "a" + ")" * 12))

    def test_statements_add_nothing(self):
        parse("procedure p is begin q(f(f(f(f(f(1))))), 1); end;")
        parse("procedure p is begin loop loop loop loop q(1+1+1+1+1+1); end loop; end loop; end loop; end loop; end;")

    def test_deep_texts(self):
        for text in (
            "procedure p is " * 250, "procedure p is begin " + "loop " * 700, "procedure p is begin " + "if a then " * 390,
            "procedure p is begin " + "begin " * 600, "procedure p is begin x := " + "(" * 3900,
            "procedure p is begin x := " + "-(" * 1900, "procedure p is begin " + "declare procedure q is begin " * 130,
            "procedure p is begin q(" + "f(" * 1900, "procedure p is begin get(x(" + "x(" * 1900,
        ):
            self.assert_error(ParseError, (1, len(text) + 1), parse, text)
            self.assert_parse_error(ParseError, text + " @|")
        for many in (3, 100, 250):
            text = "procedure p is begin " + "loop " * (many + 3) + "null; " + "end loop; " * (many + 3) + "end;"
            self.assert_error(TooLarge, None, parse, text)
            text = "procedure p is begin x := " + "(" * (many + 10) + "1" + ")" * (many + 10) + "; end;"
            self.assert_error(TooLarge, None, parse, text)

    def test_parse_error_comes_before_too_large(self):
        self.assert_parse_error(ParseError, "procedure p is begin x := " + "(" * 20 + "1" + ")" * 20 + "; end @q;")
        self.assert_parse_error(ParseError, "procedure p is begin " + "loop " * 6 + "null; " + "end loop; " * 6 + "end @q;")
        self.assert_parse_error(ParseError, "procedure p is begin " + "loop " * 6 + "null; " + "end loop; " * 5 + "end @;")


if __name__ == "__main__":
    unittest.main()
