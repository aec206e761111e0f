"""Points [4] to [8], [23] to [30] and [44] to [46]: the run of a checked program."""

import random
import unittest

from tests.helpers import marked, put_by, run
from tests.programs import make_program
from tests.reference import run_reference
from windowada.checkdecl import check
from windowada.declarations import parse
from windowada.program import captured
from windowada.runcall import run_source
from windowada.show import show

NORMAL = ("normal",)
EXHAUSTED = ("exhausted",)
MIN, MAX = -2147483648, 2147483647


class RunCase(unittest.TestCase):

    def assert_puts(self, text, words, inputs=()):
        self.assertEqual(put_by(text, inputs), (list(words), NORMAL))

    def assert_raises_at(self, name, text, words=(), inputs=()):
        """Looks at a run that ends with an exception at the place before which @ stands."""
        whole, place = marked(text)
        self.assertEqual(put_by(whole, inputs), (list(words), ("raised", name, *place)))

    def assert_value(self, expression, word):
        self.assert_puts(f"procedure m is begin put({expression}); end;", [word])

    def assert_truth(self, expression, truth):
        self.assert_puts(f"procedure m is begin if {expression} then put(1); else put(0); end if; end;", [int(truth)])


class ResultsTest(RunCase):

    TEXT = "procedure main is\n   x : integer := 3;\nbegin\n   put(x * x);\n   get(x);\nend;"

    def test_example(self):
        self.assertEqual(run(self.TEXT, [], 3), ((("put", 9),), ("raised", "end_error", 5, 4)))
        self.assertEqual(run(self.TEXT, [8], 3), ((("put", 9), ("get", 8)), NORMAL))
        self.assertEqual(run(self.TEXT, [], 2), ((("put", 9),), EXHAUSTED))
        self.assertEqual(run(self.TEXT, [], 1), ((), EXHAUSTED))
        self.assertEqual(run(self.TEXT, [], 0), ((), EXHAUSTED))
        self.assertEqual(run("procedure main is begin put(2 + 3); end;", [], 2), ((("put", 5),), NORMAL))

    def test_forms_of_results(self):
        result = run(self.TEXT, [8], 3)
        self.assertIs(type(result), tuple)
        self.assertIs(type(result[0]), tuple)
        self.assertTrue(all(type(event) is tuple and type(event[1]) is int for event in result[0]))
        self.assertEqual(run("procedure m is begin null; end;"), ((), NORMAL))
        events, _ = run("procedure m is b : boolean := true; begin for i in 1 .. 1 loop put(i); end loop; end;")
        self.assertIs(type(events[0][1]), int)

    def test_the_inputs_are_not_changed_and_the_program_runs_again(self):
        program = check(parse(
            "procedure m is type t is array (1 .. 3) of integer; v : t; x : integer; begin v(1) := v(1) + 1; get(x); v(2) := x; "
            "x := x + v(1); put(x); get(x); exception when end_error => put(v(2)); raise; end;"
        ))
        inputs = [4]
        first = run_source(program, inputs, fuel=100)
        self.assertEqual(first[0], (("get", 4), ("put", 5), ("put", 4)))
        for _ in range(3):
            self.assertEqual(run_source(program, inputs, fuel=100), first)
            run_source(program, [7, 8], fuel=5)
        self.assertEqual(inputs, [4])
        self.assertEqual(captured(program), ((),))

    def test_ending_of_a_declared_exception(self):
        self.assert_raises_at("oops", "procedure m is oops : exception; begin\n  @raise oops; end;")


class FuelTest(RunCase):

    def assert_units(self, text, units, inputs=()):
        """Looks whether a run needs exactly as many units."""
        whole = run(text, inputs, 100000)
        self.assertNotEqual(whole[1], EXHAUSTED)
        self.assertEqual(run(text, inputs, units), whole)
        for fuel in range(units):
            events, ending = run(text, inputs, fuel)
            self.assertEqual(ending, EXHAUSTED)
            self.assertEqual(events, whole[0][:len(events)])
            self.assertLessEqual(len(events), fuel)

    def test_units(self):
        for statements, units in (
            ("null;", 2), ("null; null; null;", 4), ("put(1);", 2), ("get(x);", 2), ("if x = 0 then null; end if;", 3),
            ("if x = 1 then null; end if;", 2), ("if x = 1 then null; elsif x = 2 then null; else null; null; end if;", 4),
            ("while x < 3 loop x := x + 1; end loop;", 8), ("while x > 3 loop null; end loop;", 2),
            ("loop exit; end loop;", 4), ("loop x := x + 1; exit when x = 3; end loop;", 11), ("for i in 1 .. 3 loop null; end loop;", 8),
            ("for i in 3 .. 1 loop null; end loop;", 2), ("for i in reverse 1 .. 3 loop put(i); put(i); end loop;", 11),
            ("case x is when 0 => null; when others => null; null; end case;", 3), ("case x is when 1 => null; when others => null; null; end case;", 4),
            ("begin null; end;", 3), ("declare y : integer := 1; begin null; end;", 3), ("return;", 2), ("return; null;", 2),
            ("begin raise end_error; exception when others => null; end;", 4), ("begin raise end_error; null; exception when others => null; null; end;", 5),
            ("q;", 4), ("q; q;", 7), ("x := f;", 4), ("put(f + f);", 6), ("r(x);", 4), ("put(g(f));", 6), ("if true or else f = 1 then null; end if;", 3),
            ("if false or f = 1 then null; end if;", 5), ("raise end_error;", 2), ("x := 1 / x; null;", 2),
            ("for i in f .. f loop null; end loop;", 8), ("declare y : integer := f; begin null; end;", 5),
        ):
            self.assert_units(
                "procedure m is x : integer; procedure q is begin null; end; function f return integer is begin return 1; end; "
                "function g (a : integer) return integer is begin return a; end; procedure r (a : in out integer) is y : integer := 3; "
                "begin null; end; begin " + statements + " end;", units, [5],
            )

    def test_the_unit_of_an_activation_is_due_before_its_declarations(self):
        text = "procedure m is procedure q (a : integer) is x : integer := 1 / a; begin null; end; begin q(0); end;"
        self.assertEqual(run(text, [], 2)[1], EXHAUSTED)
        self.assertEqual(run(text, [], 3)[1][:2], ("raised", "constraint_error"))
        text = "procedure m is x : integer := 1 / 0; begin null; end;"
        self.assertEqual(run(text, [], 0)[1], EXHAUSTED)
        self.assertEqual(run(text, [], 1)[1][:2], ("raised", "constraint_error"))

    def test_the_unit_of_an_activation_is_due_after_the_arguments(self):
        text = "procedure m is subtype s is integer range 1 .. 2; procedure q (a : s) is begin null; end; begin q(3); end;"
        self.assertEqual(run(text, [], 2)[1][:2], ("raised", "constraint_error"))
        text = "procedure m is procedure q (a : integer) is begin null; end; begin q(1 / 0); end;"
        self.assertEqual(run(text, [], 2)[1][:2], ("raised", "constraint_error"))

    def test_the_unit_of_a_statement_is_due_before_it(self):
        text = "procedure m is begin put(1 / 0); end;"
        self.assertEqual(run(text, [], 1)[1], EXHAUSTED)
        self.assertEqual(run(text, [], 2)[1][:2], ("raised", "constraint_error"))

    def test_no_handler_runs_when_no_unit_is_left(self):
        text = "procedure m is begin begin null; null; exception when others => put(1); end; exception when others => put(2); end;"
        for fuel in range(4):
            self.assertEqual(run(text, [], fuel), ((), EXHAUSTED))
        self.assertEqual(run(text, [], 4), ((), NORMAL))

    def test_the_turn_of_a_loop(self):
        text = "procedure m is x : integer := 1; begin while x / x = 1 loop x := 0; end loop; end;"
        # One for the activation, the loop, the turn and the assignment; then the condition fails without a unit.
        self.assertEqual(run(text, [], 4)[1][:2], ("raised", "constraint_error"))
        self.assertEqual(run(text, [], 3)[1], EXHAUSTED)

    def test_endless_programs(self):
        for statements in ("loop null; end loop;", "while true loop null; end loop;", "for i in 1 .. 2147483647 loop null; end loop;"):
            self.assertEqual(run("procedure m is begin " + statements + " end;", [], 100000), ((), EXHAUSTED))
        events, ending = run("procedure m is begin loop put(1); end loop; end;", [], 100000)
        self.assertEqual((len(events), ending), (49999, EXHAUSTED))

    def test_fuel_only_cuts_off(self):
        for seed in range(2000, 2040):
            program = check(make_program(seed))
            last = ((), EXHAUSTED)
            for fuel in range(80):
                result = run_source(program, [1, 2, 3], fuel=fuel)
                if last[1] != EXHAUSTED:
                    self.assertEqual(result, last)
                self.assertEqual(result[0][:len(last[0])], last[0])
                self.assertLessEqual(len(result[0]), min(fuel, len(last[0]) + 1))
                last = result


class CallDepthTest(RunCase):

    def text(self, many, at=""):
        return (
            "procedure m is procedure q (n : integer) is begin put(n); if n > 1 then " + at + "q(n - 1); end if; end; begin q(" + str(many) + "); end;"
        )

    def test_nine_calls_inside_of_one_another(self):
        self.assert_puts(self.text(9), range(9, 0, -1))
        self.assert_raises_at("storage_error", self.text(10, "@"), range(10, 1, -1))

    def test_functions(self):
        text = "procedure m is function f (n : integer) return integer is begin if n = 0 then return 0; end if; return 1 + {}f(n - 1); end; begin put(f({})); end;"
        self.assert_puts(text.format("", 8), [8])
        self.assert_raises_at("storage_error", text.format("@", 9))

    def test_the_arguments_are_checked_first(self):
        text = (
            "procedure m is subtype s is integer range 1 .. 9; procedure q (n : integer; a : integer) is begin if n = 1 then {} "
            "else q(n - 1, a); end if; end; begin q(9, 0); end;"
        )
        self.assert_raises_at("constraint_error", text.format("q(0, 1 @/ a);"))
        self.assert_raises_at("storage_error", text.format("@q(0, 1);"))
        text = text.replace("a : integer", "a : s").replace("q(9, 0)", "q(9, 1)")
        self.assert_raises_at("constraint_error", text.format("q(0, a @- a);"))

    def test_no_unit_is_used(self):
        self.assertEqual(run(self.text(10), [], 2 + 9 * 4)[1][:2], ("raised", "storage_error"))
        self.assertEqual(run(self.text(10), [], 1 + 9 * 4)[1], EXHAUSTED)

    def test_the_error_can_be_handled(self):
        self.assert_puts(
            "procedure m is n : integer; procedure q is begin n := n + 1; q; exception when storage_error => put(n); end; begin q; q; end;", [9, 18],
        )
        self.assert_puts(
            "procedure m is procedure q (n : integer) is begin if n > 0 then q(n - 1); end if; exception when storage_error => put(n); raise; end; "
            "begin q(20); exception when others => put(-1); end;", [*range(12, 21), -1],
        )

    def test_calls_side_by_side_do_not_count(self):
        self.assert_puts(
            "procedure m is x : integer; function f (n : integer) return integer is begin x := x + n; return n; end; "
            "begin for i in 1 .. 20 loop x := f(f(f(f(1)))) + x; end loop; put(x); end;", [100],
        )


class InputsTest(RunCase):

    def test_inputs_run_out(self):
        text = "procedure m is x : integer; begin loop\nget(x); put(x + 1); end loop; end;"
        self.assertEqual(
            run(text, [4, 5]), ((("get", 4), ("put", 5), ("get", 5), ("put", 6)), ("raised", "end_error", 2, 1)),
        )
        self.assertEqual(run(text), ((), ("raised", "end_error", 2, 1)))

    def test_the_range_is_checked_behind_the_event(self):
        text = "procedure m is subtype s is integer range 1 .. 5; x : s; begin get(x); exception when constraint_error => put(x); end;"
        self.assertEqual(run(text, [9]), ((("get", 9), ("put", 1)), NORMAL))
        self.assert_raises_at("constraint_error", "procedure m is subtype s is integer range 1 .. 5; x : s; begin\nget( @x); end;", (), [0])
        self.assertEqual(run(text, [5]), ((("get", 5),), NORMAL))
        self.assertEqual(run(text, [6])[0], (("get", 6), ("put", 1)))

    def test_the_index_comes_before_the_input(self):
        text = "procedure m is type t is array (1 .. 2) of integer; v : t; begin get(v(@3)); end;"
        self.assert_raises_at("constraint_error", text, (), [7])
        self.assertEqual(run(text.replace("@", ""), [7])[0], ())
        text = "procedure m is subtype s is integer range 0 .. 1; type t is array (1 .. 2) of s; v : t; begin get(@v(2)); end;"
        self.assert_raises_at("constraint_error", text, (), [7])
        self.assert_raises_at("end_error", "procedure m is type t is array (1 .. 2) of integer; v : t; begin @get(v(2)); end;")
        self.assert_raises_at("constraint_error", "procedure m is type t is array (1 .. 2) of integer; v : t; begin get(v(@0)); end;")

    def test_end_error_can_be_handled(self):
        self.assertEqual(
            run("procedure m is x : integer; begin loop get(x); end loop; exception when end_error => put(x); end;", [3, 4]),
            ((("get", 3), ("get", 4), ("put", 4)), NORMAL),
        )

    def test_all_words(self):
        self.assertEqual(
            run("procedure m is x : integer; begin get(x); put(x); get(x); put(x); end;", [MIN, MAX])[0],
            (("get", MIN), ("put", MIN), ("get", MAX), ("put", MAX)),
        )


class OperatorsTest(RunCase):

    def test_values(self):
        for expression, word in (
            ("7 / 2", 3), ("-7 / 2", -3), ("7 / (-2)", -3), ("-7 rem 2", -1), ("-7 mod 2", 1), ("7 mod (-2)", -1), ("7 rem (-2)", 1),
            ("2 - 3 - 4", -5), ("2 * 3 + 4", 10), ("2 + 3 * 4", 14), ("-2 * 3", -6), ("abs (-5)", 5), ("abs 5", 5), ("- -5", 5),
            ("2147483647", MAX), ("-2147483647 - 1", MIN), ("integer'first", MIN), ("integer'last", MAX), ("(integer'first) rem (-1)", 0),
            ("integer'first mod (-1)", 0), ("integer'first / 1", MIN), ("-integer'last", -MAX), ("integer'last - integer'last", 0),
            ("integer'first + integer'last", -1), ("65536 * (-32768)", MIN),
        ):
            self.assert_value(expression, word)

    def test_errors(self):
        for expression in (
            "integer'last @+ 1", "integer'first @- 1", "integer'last @* 2", "@-integer'first", "@abs integer'first", "integer'first @/ (-1)", "1 @/ 0",
            "1 @mod 0", "1 @rem 0", "integer'first @/ 0", "1 + (integer'last @+ 1)", "0 @- integer'first", "(1 @/ 0) + (1 mod 0)", "0 @/ 0",
        ):
            self.assert_raises_at("constraint_error", f"procedure m is begin\n put({expression}); end;")

    def test_truths(self):
        for left in (False, True):
            for right in (False, True):
                a, b = str(left).lower(), str(right).lower()
                for operator, truth in (
                    ("and", left and right), ("or", left or right), ("xor", left != right), ("and then", left and right),
                    ("or else", left or right), ("=", left == right), ("/=", left != right),
                ):
                    self.assert_truth(f"{a} {operator} {b}", truth)
            self.assert_truth(f"not {a}", not left)

    def test_relations(self):
        for left in (MIN, -1, 0, 1, MAX):
            for right in (MIN, -1, 0, 1, MAX):
                a, b = (str(word) if word >= 0 else f"({word + 1} - 1)" for word in (left, right))
                for operator, truth in (
                    ("=", left == right), ("/=", left != right), ("<", left < right), ("<=", left <= right), (">", left > right), (">=", left >= right),
                ):
                    self.assert_truth(f"{a} {operator} {b}", truth)

    HEAD = (
        "procedure m is b : boolean; x : integer; function t (n : integer) return boolean is begin put(n); return true; end; "
        "function f (n : integer) return boolean is begin put(n); return false; end; "
        "function i (n : integer) return integer is begin put(n); return n; end; begin "
    )

    def test_which_sides_are_evaluated(self):
        for expression, words in (
            ("f(1) and t(2)", [1, 2]), ("t(1) or f(2)", [1, 2]), ("t(1) xor t(2)", [1, 2]), ("f(1) and then t(2)", [1]), ("t(1) and then t(2)", [1, 2]),
            ("t(1) or else t(2)", [1]), ("f(1) or else t(2)", [1, 2]), ("f(1) and then f(2) and then f(3)", [1]), ("f(1) or else t(2) or else f(3)", [1, 2]),
            ("(f(1) and then t(2)) or t(3)", [1, 3]), ("t(1) and then (f(2) or else t(3))", [1, 2, 3]), ("i(1) = i(2)", [1, 2]), ("t(1) = f(2)", [1, 2]),
        ):
            self.assert_puts(self.HEAD + f"b := {expression}; end;", words)

    def test_from_left_to_right(self):
        self.assert_puts(self.HEAD + "x := i(1) + i(2) * i(3) - i(4); put(x); end;", [1, 2, 3, 4, 3])
        self.assert_puts(self.HEAD + "x := i(i(1) + i(2)) / i(4); put(x); end;", [1, 2, 3, 4, 0])

    def test_a_side_that_is_not_evaluated_raises_nothing(self):
        self.assert_puts("procedure m is x : integer; begin if x /= 0 and then 1 / x > 0 then put(1); else put(2); end if; end;", [2])
        self.assert_puts("procedure m is x : integer; begin if x = 0 or else 1 / x > 0 then put(1); else put(2); end if; end;", [1])
        self.assert_raises_at("constraint_error", "procedure m is x : integer; begin if x /= 0 and 1 @/ x > 0 then put(1); end if; end;")


class VariablesTest(RunCase):

    def test_start_values(self):
        self.assert_puts(
            "procedure m is subtype low is integer range 3 .. 5; subtype neg is integer range -5 .. -3; subtype zero is integer range -1 .. 1; "
            "subtype top is integer range -4 .. 0; type a is array (1 .. 2) of low; type b is array (1 .. 2) of boolean; type c is array (0 .. 0) of top; "
            "x : integer; y : low; z : neg; u : zero; v : a; w : b; k : boolean; d : c; "
            "begin put(x); put(y); put(z); put(u); put(v(1)); put(v(2)); put(d(0)); if w(1) or w(2) or k then put(1); end if; end;",
            [0, 3, -5, 0, 3, 3, 0],
        )

    def test_start_values_of_parameters_of_the_mode_out(self):
        self.assert_puts(
            "procedure m is subtype low is integer range 3 .. 5; x : integer := 9; y : integer := 9; b : boolean := true; "
            "procedure q (a : out integer; c : out low; d : out boolean) is begin put(a); put(c); if not d then put(7); end if; end; "
            "begin q(x, y, b); put(x); put(y); if not b then put(8); end if; end;", [0, 3, 7, 0, 3, 8],
        )

    def test_each_activation_has_its_own(self):
        self.assert_puts(
            "procedure m is procedure q (n : integer) is x : integer := n; begin if n > 0 then q(n - 1); end if; put(x); x := 100; end; begin q(3); end;",
            [0, 1, 2, 3],
        )

    def test_a_name_of_a_subprogram_around(self):
        self.assert_puts(
            "procedure m is procedure a (n : integer) is x : integer := n; procedure b is begin put(x); x := x + 10; end; "
            "begin if n > 0 then a(n - 1); end if; b; put(x); end; begin a(2); end;", [0, 10, 1, 11, 2, 12],
        )
        # The called subprogram sees the activation in which it was declared, not the latest one.
        self.assert_puts(
            "procedure m is procedure a (n : integer) is x : integer := n; procedure b (k : integer) is begin if k = 0 then put(x); "
            "else declare procedure c is begin b(k - 1); end; begin c; end; end if; end; "
            "begin if n > 0 then a(n - 1); end if; b(2); end; begin a(1); end;", [0, 1],
        )
        self.assert_puts(
            "procedure m is x : integer := 1; procedure a is y : integer := 2; procedure b is z : integer := 3; "
            "procedure c is begin x := x + 10; y := y + 10; z := z + 10; put(x + y + z); end; begin c; put(z); end; begin b; put(y); b; end; "
            "begin a; put(x); end;", [36, 13, 12, 56, 13, 21],
        )

    def test_the_variables_of_a_block_are_made_anew(self):
        self.assert_puts(
            "procedure m is begin for i in 1 .. 2 loop declare type t is array (1 .. 2) of integer; v : t; x : integer; y : integer := i; "
            "begin put(v(1)); put(x); put(y); v(1) := 5; x := 6; y := 7; end; end loop; end;", [0, 0, 1, 0, 0, 2],
        )

    def test_declarations_are_elaborated_in_order(self):
        self.assert_puts(
            "procedure m is n : integer; function f return integer is begin n := n + 1; return n; end; begin declare a : integer := f; "
            "b : constant integer := f + a; c : integer := b * 10 + f; begin put(a); put(b); put(c); end; end;", [1, 3, 33],
        )

    def test_arrays(self):
        self.assert_puts(
            "procedure m is type t is array (-2 .. 2) of integer; v : t; w : t; begin for i in v'first .. v'last loop v(i) := i * i; end loop; "
            "w(0) := 9; for i in reverse t'first .. t'last loop put(v(i)); end loop; put(w(0)); put(w(1)); v(v(1)) := 50; put(v(1)); end;",
            [4, 1, 0, 1, 4, 9, 0, 50],
        )

    def test_arrays_of_several_activations(self):
        self.assert_puts(
            "procedure m is procedure q (n : integer) is type t is array (1 .. 2) of integer; v : t; begin v(1) := n; "
            "if n > 1 then q(n - 1); end if; put(v(1)); put(v(2)); v(2) := 4; end; begin q(3); end;", [1, 0, 2, 0, 3, 0],
        )


class RangesTest(RunCase):

    HEAD = (
        "procedure m is subtype s is integer range 1 .. 5; type t is array (2 .. 4) of s; x : integer; y : s; v : t; b : boolean; "
        "function f (n : integer) return s is begin return n; end; function g (n : s) return integer is begin return n; end; "
        "procedure q (n : s) is begin put(n); end; begin\n"
    )

    def good(self, text, words=()):
        self.assert_puts(self.HEAD + text + " end;", words)

    def bad(self, text, words=()):
        self.assert_raises_at("constraint_error", self.HEAD + text + " end;", words)

    def test_assignments(self):
        self.good("y := 1; y := 5; v(2) := 1; v(4) := 5; put(y);", [5])
        for text in ("y := @0;", "y := @6;", "y := @-3;", "y := 5 @+ 1;", "y := @x;", "v(3) := @0;", "v(2) := 2 @* 3;", "v(2) := g(1) @- 1;"):
            self.bad(text)
        self.bad("y := 2; put(y); y := @7; put(y);", [2])

    def test_a_failed_assignment_changes_nothing(self):
        self.good("y := 3; begin y := 6; exception when constraint_error => put(y); end; v(2) := 4; begin v(2) := 0; exception when others => put(v(2)); end;", [3, 4])

    def test_declarations(self):
        for text in (
            "declare z : s := @0; begin null; end;", "declare z : constant s := @6; begin null; end;", "declare z : s := 3 @+ 3; begin null; end;",
            "declare subtype r is s range 2 .. 3; z : r := @1; begin null; end;",
        ):
            self.bad(text)
        self.good("declare z : s := 5; u : constant s := 1; begin put(z + u); end;", [6])

    def test_parameters(self):
        for text in ("q(@0);", "q(@6);", "q(@x);", "q(2 @* 3);", "x := g(@0);", "x := g(3 @+ 3);", "put(g(@-1));"):
            self.bad(text)
        self.good("q(1); q(5); put(g(3));", [1, 5, 3])

    def test_results(self):
        for call in ("x := f(0);", "x := f(6);"):
            text = self.HEAD.replace("return s is begin return n", "return s is begin return @n") + call + " end;"
            self.assert_raises_at("constraint_error", text)
        self.good("put(f(1) + f(5));", [6])

    def test_indexes(self):
        for text in ("v(@1) := 1;", "v(@5) := 1;", "x := v(@1);", "x := v(2 @+ 3);", "put(v(@x));", "get(v(@0));", "put(v(@-2));", "x := v(v(@0));",
                     "x := v(@v(2));", "q(v(@9));"):
            self.bad(text)
        self.good("v(4) := 2; put(v(v(4)));", [1])

    def test_an_index_is_checked_before_the_expression(self):
        self.bad("v(@1) := 1 / 0;")
        self.bad("v(@1) := 9;")
        self.bad("v(2) := 1 @/ 0;")
        self.assert_raises_at(
            "constraint_error", self.HEAD.replace("begin put(n)", "begin null").replace("return s is begin return n", "return s is begin put(n); return n")
            + "v(f(2)) := f(3) @+ f(4); end;", [2, 3, 4],
        )

    def test_no_check_where_nothing_is_assigned(self):
        self.good("put(6); put(y - 5); x := 100; if v(2) + 50 > 50 then put(1); end if; for i in 90 .. 91 loop put(i); end loop;", [6, -4, 1, 90, 91])

    def test_booleans_are_never_out_of_range(self):
        self.good("b := true; b := not b; if not b then put(1); end if;", [1])


class StatementsTest(RunCase):

    def do(self, statements, words, inputs=()):
        self.assert_puts(
            "procedure m is x : integer; y : integer; b : boolean; function f (n : integer) return integer is begin put(n); return n; end; begin "
            + statements + " end;", words, inputs,
        )

    def test_if(self):
        text = "if {} = 1 then put(1); elsif {} = 2 then put(2); put(22); elsif {} < 4 then put(3); else put(4); end if;"
        for word, words in ((1, [1]), (2, [2, 22]), (3, [3]), (4, [4])):
            self.do(text.replace("{}", str(word)), words)
        self.do("if f(1) = 2 then put(0); elsif f(2) = 2 then put(5); elsif f(3) = 3 then put(6); end if;", [1, 2, 5])
        self.do("if false then put(1); end if; put(2);", [2])

    def test_while(self):
        self.do("while x < 3 loop x := x + 1; put(x); end loop;", [1, 2, 3])
        self.do("while false loop put(1); end loop;", [])
        self.do("while f(x) < 2 loop x := x + 1; end loop;", [0, 1, 2])
        self.do("while true loop x := x + 1; exit when x = 2; put(x); end loop; put(9);", [1, 9])

    def test_loop(self):
        self.do("loop x := x + 1; put(x); if x = 2 then exit; end if; end loop;", [1, 2])
        self.do("loop loop x := x + 1; exit when x mod 3 = 0; end loop; put(x); exit when x > 6; end loop;", [3, 6, 9])
        self.do("loop begin exit; exception when others => put(1); end; put(2); end loop; put(3);", [3])
        self.do("loop begin raise end_error; exception when others => exit; end; end loop; put(3);", [3])
        self.do("loop case x is when 0 => exit; when others => null; end case; end loop; put(3);", [3])

    def test_for(self):
        self.do("for i in 2 .. 4 loop put(i); end loop;", [2, 3, 4])
        self.do("for i in reverse 2 .. 4 loop put(i); end loop;", [4, 3, 2])
        self.do("for i in 3 .. 3 loop put(i); end loop; for i in reverse 3 .. 3 loop put(i); end loop;", [3, 3])
        self.do("for i in 4 .. 3 loop put(i); end loop; for i in reverse 4 .. 3 loop put(i); end loop;", [])
        self.do("for i in f(1) .. f(2) loop null; end loop; for i in reverse f(3) .. f(4) loop put(i); end loop;", [1, 2, 3, 4, 4, 3])
        self.do("x := 2; for i in 1 .. x loop x := 10; put(i); end loop; put(x);", [1, 2, 10])
        self.do("for i in 1 .. 9 loop exit when i = 3; put(i); end loop; put(0);", [1, 2, 0])
        self.do("for i in 1 .. 2 loop for j in i .. 2 loop put(10 * i + j); end loop; end loop;", [11, 12, 22])

    def test_for_at_the_ends_of_the_words(self):
        self.do("for i in integer'last - 1 .. integer'last loop put(i); end loop;", [MAX - 1, MAX])
        self.do("for i in integer'first .. integer'first + 1 loop put(i); end loop;", [MIN, MIN + 1])
        self.do("for i in reverse integer'first .. integer'first + 1 loop put(i); end loop;", [MIN + 1, MIN])
        self.do("for i in reverse integer'last - 1 .. integer'last loop put(i); end loop;", [MAX, MAX - 1])
        self.do("for i in integer'last .. integer'first loop put(i); end loop;", [])
        self.do("for i in integer'first .. integer'last loop put(i); exit when i > integer'first; end loop;", [MIN, MIN + 1])
        self.do("for i in reverse integer'first .. integer'last loop put(i); exit; end loop;", [MAX])

    def test_case(self):
        text = "case {} is when 1 | 3 .. 5 => put(1); when 4 .. 8 | -2 => put(2); when -5 .. -3 | 1 => put(3); put(33); when others => put(4); end case;"
        for word, words in (
            ("1", [1]), ("3", [1]), ("4", [1]), ("5", [1]), ("6", [2]), ("8", [2]), ("-2", [2]), ("-3", [3, 33]), ("-5", [3, 33]), ("0", [4]), ("9", [4]),
            ("-6", [4]), ("2", [4]), ("integer'first", [4]), ("integer'last", [4]), ("-1", [4]),
        ):
            self.do(text.replace("{}", word), words)
        self.do("case f(2) is when others => put(1); end case;", [2, 1])
        self.do("case f(2) is when 1 .. 2 => put(1); when 2 => put(2); when others => put(3); end case;", [2, 1])
        self.do("case integer'last is when 2147483647 => put(1); when others => put(2); end case;", [1])

    def test_assignment_and_null(self):
        self.do("x := 1; y := x + 1; null; x := y; put(x); b := x = 2; if b then put(3); end if;", [2, 3])

    def test_return_of_the_main_program(self):
        self.do("put(1); if x = 0 then return; end if; put(2);", [1])
        self.do("loop begin return; exception when others => put(2); end; end loop;", [])

    def test_return_of_a_procedure(self):
        self.assert_puts(
            "procedure m is procedure q (n : integer; k : out integer) is begin k := 1; for i in 1 .. 9 loop k := i; if i = n then return; end if; end loop; "
            "put(-1); end; x : integer; begin q(4, x); put(x); q(10, x); put(x); end;", [4, -1, 9],
        )

    def test_return_of_a_function(self):
        self.assert_puts(
            "procedure m is function f (n : integer) return integer is begin while true loop for i in 1 .. 9 loop begin if i = n then return i * 10; end if; "
            "end; end loop; end loop; end; begin put(f(3) + f(4)); end;", [70],
        )


class CallsTest(RunCase):

    def test_the_three_modes(self):
        self.assert_puts(
            "procedure m is x : integer := 1; y : integer := 2; z : integer := 3; procedure q (a : integer; b : out integer; c : in out integer) is "
            "begin put(a); put(b); put(c); b := a + 10; c := c + 10; x := 100; put(a); end; begin q(x, y, z); put(x); put(y); put(z); end;",
            [1, 0, 3, 1, 100, 11, 13],
        )

    def test_parameters_hold_copies(self):
        self.assert_puts(
            "procedure m is x : integer := 1; procedure q (a : in out integer) is begin a := 5; put(x); x := 7; put(a); end; begin q(x); put(x); end;",
            [1, 5, 5],
        )

    def test_one_variable_for_two_parameters(self):
        for modes, words in ((("in out", "in out"), [3, 3, 4]), (("out", "out"), [0, 0, 2]), (("in out", "out"), [3, 0, 2]), (("out", "in out"), [0, 3, 4])):
            self.assert_puts(
                f"procedure m is x : integer := 3; procedure q (a : {modes[0]} integer; b : {modes[1]} integer) is begin put(a); put(b); a := 9; "
                + ("b := b + 1;" if modes[1] == "in out" else "b := 2;") + " end; begin q(x, x); put(x); end;", words,
            )
        self.assert_puts(
            "procedure m is x : integer := 3; procedure q (a : in out integer; b : in out integer) is begin b := 8; a := 9; end; begin q(x, x); put(x); end;", [8],
        )

    def test_elements(self):
        self.assert_puts(
            "procedure m is type t is array (1 .. 3) of integer; v : t; i : integer := 1; procedure q (a : in out integer; b : out integer) is "
            "begin i := 3; a := a + 5; b := 2; end; begin q(v(i), v(i + 1)); put(v(1)); put(v(2)); put(v(3)); q(v(i), i); put(v(3)); put(i); end;",
            [5, 2, 0, 5, 2],
        )

    def test_arguments_are_taken_in_order(self):
        self.assert_puts(
            "procedure m is type t is array (1 .. 9) of integer; v : t; function f (n : integer) return integer is begin put(n); return n; end; "
            "procedure q (a : integer; b : out integer; c : in out integer; d : integer) is begin put(d); end; "
            "begin q(f(1), v(f(2)), v(f(3)), f(4)); end;", [1, 2, 3, 4, 4],
        )
        # An argument of the mode in out is read when it is its turn.
        self.assert_puts(
            "procedure m is x : integer := 1; function f return integer is begin x := x + 1; return x; end; "
            "procedure q (a : in out integer; b : integer; c : in out integer) is begin put(a); put(b); put(c); end; begin q(x, f, x); put(x); end;",
            [1, 2, 2, 2],
        )

    HEAD = (
        "procedure m is subtype s is integer range 1 .. 5; type t is array (1 .. 2) of s; x : integer := 9; y : s := 2; z : integer; v : t; "
    )

    def test_checks_before_the_call(self):
        for text in (
            "procedure q (a : in out s) is begin put(1); end; begin q(@x); end;",
            "procedure q (a : integer; b : in out s) is begin put(1); end; begin q(1, @z); end;",
            "procedure q (a : out integer) is begin put(1); end; begin q(v(@3)); end;",
            "procedure q (a : in out integer) is begin put(1); end; begin q(v(@0)); end;",
            "procedure q (a : s) is begin put(1); end; begin q(@x); end;",
        ):
            self.assert_raises_at("constraint_error", self.HEAD + text)
        self.assert_puts(self.HEAD + "procedure q (a : out s) is begin put(a); end; begin q(x); put(x); end;", [1, 1])

    def test_checks_behind_the_call(self):
        for text in (
            "procedure q (a : out integer) is begin a := 6; put(1); end; begin q(@y); end;",
            "procedure q (a : in out integer) is begin a := a + 4; put(1); end; begin q(@y); end;",
            "procedure q (a : out integer) is begin put(1); end; begin q(@y); end;",
            "procedure q (a : out integer) is begin put(1); end; begin q(@v(2)); end;",
            "procedure q (a : out integer; b : out integer) is begin a := 9; b := 9; put(1); end; begin q(z, @y); end;",
        ):
            self.assert_raises_at("constraint_error", self.HEAD + text, [1])

    def test_targets_before_the_one_that_fails_keep_their_new_values(self):
        self.assert_puts(
            self.HEAD + "procedure q (a : out integer; b : out integer; c : out integer) is begin a := 7; b := 8; c := 9; end; "
            "begin q(z, y, x); exception when constraint_error => put(z); put(y); put(x); end;", [7, 2, 9],
        )
        self.assert_puts(
            self.HEAD + "procedure q (a : out integer; b : out integer) is begin a := 7; b := 8; end; "
            "begin q(z, z); put(z); q(y, z); exception when constraint_error => put(z); put(y); end;", [8, 8, 2],
        )

    def test_nothing_is_copied_back_if_an_exception_leaves(self):
        self.assert_puts(
            self.HEAD + "procedure q (a : in out integer) is begin a := 7; raise end_error; end; begin q(x); exception when end_error => put(x); end;", [9],
        )
        self.assert_puts(
            self.HEAD + "procedure q (a : in out integer) is begin a := 7; raise end_error; exception when end_error => a := a + 1; end; begin q(x); put(x); end;",
            [8],
        )

    def test_a_return_copies_back(self):
        self.assert_puts(self.HEAD + "procedure q (a : out integer) is begin a := 7; return; end; begin q(x); put(x); end;", [7])

    def test_the_place_of_a_call_and_of_an_expression(self):
        self.assert_raises_at(
            "program_error", "procedure m is function @f return integer is begin null; end; begin put(1 + f); end;",
        )

    def test_a_function_without_a_return(self):
        for body in (
            "begin null; end;", "begin if false then return 1; end if; end;", "begin loop exit; end loop; end;",
            "begin raise end_error; exception when end_error => null; end;", "begin null; exception when others => return 1; end;",
            "begin null; exception when program_error => return 1; end;", "begin begin return 1 / 0; exception when others => null; end; end;",
        ):
            self.assert_raises_at("program_error", "procedure m is function @f return integer is " + body + " begin put(2); put(f); end;", [2])
        self.assert_puts(
            "procedure m is function f return integer is begin null; exception when others => return 1; end; "
            "begin put(f); exception when program_error => put(5); end;", [5],
        )
        self.assert_puts(
            "procedure m is function f return integer is begin raise end_error; exception when others => return 1; end; begin put(f); end;", [1],
        )

    def test_functions_inside_of_expressions(self):
        self.assert_puts(
            "procedure m is n : integer; function next_one return integer is begin n := n + 1; return n; end; "
            "function add (a : integer; b : integer) return integer is begin return 10 * a + b; end; "
            "begin put(add(next_one, next_one)); put(add(add(1, 2), next_one) - next_one); end;", [12, 119],
        )

    def test_recursion(self):
        self.assert_puts(
            "procedure m is function fib (n : integer) return integer is begin if n < 2 then return n; end if; return fib(n - 1) + fib(n - 2); end; "
            "begin put(fib(9)); end;", [34],
        )


class ExceptionsTest(RunCase):

    def test_handlers(self):
        text = (
            "procedure m is a : exception; b : exception; begin begin put(1); raise {}; put(2); exception when a => put(10); when constraint_error | b => put(20); "
            "when others => put(30); end; put(3); end;"
        )
        for name, word in (("a", 10), ("b", 20), ("constraint_error", 20), ("end_error", 30), ("storage_error", 30), ("program_error", 30)):
            self.assert_puts(text.format(name), [1, word, 3])

    def test_no_handler(self):
        self.assert_raises_at("b", "procedure m is a : exception; b : exception; begin begin @raise b; exception when a => put(1); end; put(2); end;")
        self.assert_raises_at("a", "procedure m is a : exception; begin begin @raise a; end; put(2); exception when end_error => put(3); end;")

    def test_the_first_handler_around_takes_it(self):
        self.assert_puts(
            "procedure m is a : exception; begin begin begin raise a; exception when end_error => put(1); end; put(2); exception when a => put(3); end; "
            "put(4); exception when others => put(5); end;", [3, 4],
        )

    def test_the_handlers_of_a_body(self):
        self.assert_puts("procedure m is begin put(1); put(1 / 0); put(2); exception when constraint_error => put(3); end;", [1, 3])
        self.assert_puts(
            "procedure m is procedure q is begin raise end_error; exception when end_error => put(1); end; begin q; put(2); exception when others => put(3); end;",
            [1, 2],
        )

    def test_exceptions_leave_calls(self):
        self.assert_puts(
            "procedure m is e : exception; procedure q is begin raise e; put(1); end; procedure r is begin q; put(2); end; "
            "begin begin r; put(3); exception when e => put(4); end; put(5); end;", [4, 5],
        )
        self.assert_puts(
            "procedure m is e : exception; function f return integer is begin raise e; return 1; end; begin put(1 + f); exception when e => put(4); end;", [4],
        )
        self.assert_raises_at("e", "procedure m is e : exception; procedure q is begin @raise e; end; begin q; end;")
        self.assert_raises_at("constraint_error", "procedure m is procedure q (n : integer) is begin put(1 @/ n); end; begin q(1); q(0); end;", [1])

    def test_exceptions_of_declarations_leave_the_block_or_subprogram(self):
        self.assert_puts(
            "procedure m is begin begin declare x : integer := 1 / 0; begin put(1); exception when others => put(2); end; "
            "exception when constraint_error => put(3); end; end;", [3],
        )
        self.assert_puts(
            "procedure m is procedure q is x : integer := 1 / 0; begin put(1); exception when others => put(2); end; "
            "begin q; exception when constraint_error => put(3); end;", [3],
        )
        self.assert_raises_at("constraint_error", "procedure m is x : integer := 1 @/ 0; begin put(1); exception when others => put(2); end;")

    def test_exceptions_of_handlers_leave_the_block_or_subprogram(self):
        self.assert_puts(
            "procedure m is a : exception; b : exception; begin begin raise a; exception when a => raise b; when b => put(1); when others => put(2); end; "
            "exception when b => put(3); end;", [3],
        )
        self.assert_puts(
            "procedure m is a : exception; procedure q is begin raise a; exception when a => put(1 / 0); when others => put(2); end; "
            "begin q; exception when constraint_error => put(3); end;", [3],
        )
        self.assert_raises_at("a", "procedure m is a : exception; begin raise end_error; exception when end_error => @raise a; when others => put(1); end;")

    def test_raise_without_a_name(self):
        self.assert_raises_at("a", "procedure m is a : exception; begin\n @raise a; exception when others => put(1); raise; end;", [1])
        self.assert_raises_at("constraint_error", "procedure m is begin put(1 @mod 0); exception when constraint_error => raise; end;")
        self.assert_raises_at(
            "a", "procedure m is a : exception; procedure q is begin @raise a; exception when a => put(1); raise; end; "
            "begin begin q; exception when others => put(2); raise; end; exception when a => put(3); raise; end;", [1, 2, 3],
        )

    def test_the_innermost_handler_around_tells_which_one_is_raised_again(self):
        text = (
            "procedure m is a : exception; b : exception; begin\n{}raise a; exception when a => begin\n{}raise b; exception when b => {} end; {} end;"
        )
        self.assert_raises_at("b", text.format("", "@", "raise;", "put(1);"))
        self.assert_raises_at("a", text.format("@", "", "put(1);", "raise;"), [1])
        # An exception that leaves a handler does not change what the handler around took.
        self.assert_raises_at(
            "a", "procedure m is a : exception; b : exception; c : exception; begin @raise a; exception when a => begin begin raise b; "
            "exception when b => put(1); raise c; end; exception when c => put(2); end; raise; end;", [1, 2],
        )
        self.assert_raises_at(
            "a", "procedure m is a : exception; b : exception; begin @raise a; exception when a => begin raise; exception when b => put(1); "
            "end; end;",
        )
        self.assert_raises_at(
            "a", "procedure m is a : exception; begin @raise a; exception when a => for i in 1 .. 2 loop begin raise end_error; "
            "exception when others => exit when i = 2; end; end loop; raise; end;",
        )
        self.assert_raises_at(
            "a", "procedure m is a : exception; procedure q is begin raise end_error; exception when others => return; end; "
            "begin @raise a; exception when a => q; raise; end;",
        )
        self.assert_puts(
            "procedure m is a : exception; b : exception; begin raise a; exception when a => begin raise; exception when a => put(1); end; put(2); end;", [1, 2],
        )

    def test_each_activation_has_its_own_handlers(self):
        self.assert_puts(
            "procedure m is e : exception; procedure q (n : integer) is begin if n = 0 then raise e; end if; q(n - 1); exception when e => put(n); "
            "if n < 2 then raise; end if; end; begin q(4); end;", [0, 1, 2],
        )

    def test_two_exceptions_of_one_name(self):
        self.assert_raises_at(
            "e", "procedure m is e : exception; begin declare e : exception; begin @raise e; end; exception when e => put(1); end;",
        )
        self.assert_puts(
            "procedure m is e : exception; procedure q is begin raise e; end; begin declare e : exception; begin q; exception when e => put(1); "
            "when others => put(2); end; end;", [2],
        )
        self.assert_puts(
            "procedure m is e : exception; procedure q is begin raise e; end; begin begin declare e : exception; begin q; exception when e => put(1); end; "
            "exception when e => put(2); end; end;", [2],
        )

    def test_an_exception_is_its_declaration_and_no_activation(self):
        self.assert_puts(
            "procedure m is procedure q (n : integer) is e : exception; begin if n = 0 then raise e; end if; q(n - 1); exception when e => put(n); end; "
            "begin q(2); end;", [0],
        )
        self.assert_puts(
            "procedure m is procedure q (n : integer) is e : exception; procedure r is begin if n = 0 then raise e; end if; q(n - 1); end; "
            "begin if n > 1 then q(n - 1); else r; end if; exception when e => put(n); end; begin q(2); end;", [0],
        )
        self.assert_puts(
            "procedure m is procedure q (n : integer) is e : exception; begin if n = 0 then raise e; end if; begin q(n - 1); exception when end_error => null; end; "
            "exception when e => put(n); raise end_error; end; begin q(1); exception when others => put(9); end;", [0],
        )

    def test_predefined_exceptions_can_be_raised(self):
        for name in ("constraint_error", "program_error", "storage_error", "end_error"):
            self.assert_raises_at(name, f"procedure m is begin @raise {name}; end;")
            self.assert_puts(f"procedure m is begin raise {name}; exception when {name} => put(1); end;", [1])

    def test_places(self):
        text = "procedure m is\n  e : exception;\n  procedure q is\n  begin\n    raise e;\n  end;\nbegin\n  q;\nend;"
        self.assertEqual(run(text)[1], ("raised", "e", 5, 5))

    def test_many_exceptions_in_a_loop(self):
        self.assert_puts(
            "procedure m is x : integer; begin for i in 1 .. 5000 loop begin raise end_error; exception when others => x := x + 1; end; end loop; put(x); end;",
            [5000],
        )


class ReferenceTest(unittest.TestCase):
    """Programs made from seeds, compared with a second way to run them."""

    def test_programs(self):
        endings = set()
        for seed in range(350):
            tree = make_program(seed)
            text = show(tree, indent=0)
            if len(text) <= 4000:
                tree = parse(text)
            program = check(tree)
            rng = random.Random(seed)
            inputs = [rng.randint(-5, 8) for _ in range(rng.randint(0, 12))]
            for fuel in (0, 1, 3, 17, 60, 300, 1500):
                result = run_source(program, inputs, fuel=fuel)
                self.assertEqual(result, run_reference(tree, inputs, fuel), text)
            endings.add(result[1][:2])
        self.assertGreaterEqual(endings, {NORMAL, EXHAUSTED, *(("raised", name) for name in ("constraint_error", "program_error", "storage_error"))})


if __name__ == "__main__":
    unittest.main()
