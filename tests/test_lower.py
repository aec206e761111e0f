"""Point [56]: the intermediate code of checked programs."""

import random
import unittest

from tests.helpers import marked, with_own_places
from tests.modules import parts
from tests.programs import make_program
from tests.refcode import Reference as CodeReference
from tests.reference import Reference as TreeReference
from windowada.checkdecl import check
from windowada.code import operands
from windowada.declarations import parse
from windowada.lower import lower
from windowada.runcall import run_source
from windowada.runner import run_module
from windowada.show import show
from windowada.wellformed import check_module

P = (1, 1)

# Programs in which the subprograms tell with put what they do, and with what inputs they run.
VALUES = """procedure m is
  subtype small is integer range -3 .. 4; type row is array (-2 .. 2) of small; type flags is array (5 .. 6) of boolean;
  a : integer; b : integer; s : small; v : row; f : flags; t : boolean; c : constant integer := 7 - 10;
begin
  put(a); put(b); put(s); put(v(-2)); put(v(2)); put(c); put(c mod 2); put(c / 2); put(c rem 2); put(- c); put(abs c);
  put(small'first + small'last * row'first); put(v'last - f'first);
  t := a = b; if t and not f(5) then put(1); end if; f(6) := t or f(5); if f(6) xor t then put(2); else put(3); end if;
  f(5) := a < b; if f(5) then put(4); elsif a <= b then put(5); elsif a > b then put(6); elsif a >= b then put(7); end if;
  if a /= b or else 1 / a = 1 then put(8); end if;
end;"""

CHECKS = """procedure m is
  subtype small is integer range 1 .. 4; type row is array (2 .. 4) of small; s : small; v : row; i : integer; g : boolean;
  procedure try(k : integer) is
    function same(x : integer) return small is begin put(x); return x; end;
    procedure pass(x : small; y : in out integer; z : out small) is begin y := y + x; z := x; end;
  begin
    case k is
      when 1 => s := i; when 2 => v(i) := 1; when 3 => v(2) := i; when 4 => put(v(i)); when 5 => get(s); when 6 => get(v(i));
      when 7 => put(same(i)); when 8 => pass(i, i, s); when 9 => pass(1, s, v(i)); when 10 => pass(1, i, v(3));
      when 11 => pass(1, v(4), i); when 12 => declare x : small := i; begin put(x); end;
      when 13 => declare x : constant small := i; begin put(x); end; when 14 => pass(3, i, i); when 15 => pass(2, s, s);
      when others => null;
    end case;
    put(s); put(v(2)); put(v(3)); put(v(4)); put(i);
  exception when constraint_error => put(-1); when others => put(-2); put(s);
  end;
begin
  for k in 1 .. 15 loop
    for j in 0 .. 5 loop i := j; s := 3; v(2) := 2; v(3) := 4; v(4) := 4; try(k); end loop;
  end loop;
end;"""

CHANGES = """procedure m is
  x : integer := 1; type row is array (0 .. 3) of integer; v : row;
  function next(by : integer) return integer is begin x := x + by; v(x mod 4) := x; return x; end;
  procedure swap(a : in out integer; b : in out integer; i : in integer; o : out integer) is
    h : integer := a;
  begin put(o); a := b; b := h; x := x + 100; put(a); put(b); o := i; v(0) := 50; end;
  function both(a : integer; b : boolean; c : integer) return integer is begin return a * 100 + c * 10; end;
begin
  put(x + next(1) * x - next(2)); put(x); put(v(x mod 4) + next(1) + v(x mod 4));
  v(next(1) mod 4) := x + next(1); put(v(2)); put(v(3));
  swap(x, x, x, v(x mod 4)); put(x); swap(v(1), v(1), next(3), x); put(v(1)); put(x);
  x := 2; swap(x, v(x), v(x), v(x)); put(x); put(v(2)); x := 3; swap(v(x), x, v(x), v(x - 1)); put(v(2)); put(v(3)); put(x);
  put(both(x, next(1) > x, x)); put(both(next(1), x = next(1), next(1)));
  if x < next(1) and then next(1) < x then put(-1); elsif next(1) > x or else next(10) = x then put(x); end if;
  x := next(1) - x; put(x);
end;"""

OWN_VARIABLE = """procedure m is
  type row is array (0 .. 3) of integer;
  procedure twice(i : in out integer; e : in out integer; k : out integer) is begin i := i + 1; e := e + 10; k := 7; end;
  procedure work is
    i : integer := 1; v : row; w : row;
  begin
    twice(i, v(i), w(i)); twice(v(i), i, v(i)); put(i); put(v(0)); put(v(1)); put(v(2)); put(v(3)); put(w(1)); put(w(2));
    v(i - 9) := i; put(v(0));
  exception when others => put(i);
  end;
begin
  work;
end;"""

RAISES = """procedure m is
  e : exception; q : exception; n : integer; type row is array (1 .. 2) of integer; v : row;
  procedure deep(k : in out integer; o : out integer) is
    low : integer := 5;
  begin
    k := k + 1; o := k; low := low + k;
    case k is when 1 => raise e; when 2 => raise q; when 3 => raise constraint_error; when 4 => n := 1 / (k - 4); when others => null; end case;
    put(low);
  exception
    when e | end_error => put(10); raise;
    when q => begin put(20); raise end_error; exception when e => put(21); when end_error => put(22); raise; end;
  end;
  function none(k : integer) return integer is begin if k > 1 then return k; end if; exception when program_error => return 9; end;
  function other(k : integer) return integer is begin raise e; exception when e => if k > 0 then return k; end if; end;
begin
  for i in 0 .. 5 loop
    declare k : integer := i; o : integer := 77; bad : exception;
    begin
      begin deep(k, o); if i = 4 then raise bad; end if; put(k); put(o);
      exception when e => put(1); put(k); put(o); raise; when bad => put(2); when q | end_error => put(3); raise constraint_error;
      end;
    exception
      when program_error => put(4); when e => begin raise q; exception when q => put(5); raise; end;
      when constraint_error => put(6);
      when others => put(7);
    end;
  end loop;
exception
  when q => put(8); begin put(none(2)); put(other(3)); put(none(1)); exception when program_error => put(9); end; put(other(0));
end;"""

ELABORATED = """procedure m is
  n : integer := 1;
  function bump return integer is begin n := n + 1; put(n); if n > 4 then raise storage_error; end if; return n; end;
  procedure p is a : integer := bump; b : constant integer := a * 2; begin put(b); exception when others => put(-1); end;
begin
  loop
    begin
      declare x : integer := bump; begin put(x); p; exception when storage_error => put(-2); end;
    exception when storage_error => put(-3); exit when n > 6;
    end;
  end loop;
  declare y : integer := bump; begin put(0); exception when others => put(-4); end;
exception when storage_error => put(-5); declare z : integer := bump; begin null; end;
end;"""

LOOPS = """procedure m is
  n : integer; type row is array (1 .. 3) of integer;
  procedure show(a : integer; b : integer) is begin
    for i in a .. b loop put(i); end loop; for i in reverse a .. b loop put(i); end loop;
  end;
begin
  show(1, 3); show(3, 3); show(3, 2); show(2147483646, 2147483647); show(integer'first, -2147483647); show(integer'last, integer'first);
  while n < 3 loop n := n + 1; put(n); exit when n = 2; end loop;
  loop n := n - 1; begin exit when n < -1; if n = 0 then raise end_error; end if; put(n); exception when end_error => put(50); end; end loop;
  for i in 1 .. 3 loop
    for j in reverse i .. 3 loop
      declare v : row; begin put(v(j)); v(j) := i; n := n + v(j); if n > 5 then raise storage_error; end if;
      exception when others => put(-9); exit; end;
    end loop;
    declare procedure p is begin put(i + n); end; begin p; end;
  end loop;
  for i in 1 .. n loop n := n + 1; put(i); end loop; put(n);
  for i in 1 .. 3 loop for j in 1 .. 3 loop exit when j = 2; put(i * 10 + j); end loop; put(i); exit when i = 2; end loop;
  while n > 0 loop loop loop exit; end loop; n := n - 1; exit when n mod 2 = 0; end loop; put(n); end loop; put(n);
  while true loop exit; end loop; while false loop null; end loop; loop begin loop exit; end loop; exit; end; end loop;
  loop begin raise end_error; exception when others => exit; end; end loop;
  loop return; end loop;
end;"""

CASES = """procedure m is
  procedure p(k : integer) is begin
    case k is
      when 1 | 3 .. 5 | -2 => put(1); when 4 .. 7 => put(2); when -2147483647 .. -100 => put(3); when 100 .. 2147483647 => put(4);
      when 50 | 50 => put(5); when -50 => put(6); when others => put(0);
    end case;
  end;
begin
  for k in -4 .. 9 loop p(k); end loop; p(-100); p(-99); p(-101); p(99); p(100); p(2147483647); p(-2147483647 - 1); p(-50); p(50);
  case 3 is when others => put(9); end case; case 2 + 2 is when 4 => put(8); when others => put(7); end case;
end;"""

NESTED = """procedure m is
  x : integer := 1;
  procedure a(k : in out integer) is
    y : integer := k; type row is array (1 .. 2) of integer; v : row;
    function b(j : integer) return integer is
      z : integer := j;
      procedure c(i : out integer) is
      begin i := x + y + z + k + v(1); v(2) := i; k := k + 1; y := y - 1; z := z * 2; x := x + 1; end;
    begin c(z); c(v(1)); return z + y; end;
  begin
    v(1) := k; put(b(k)); put(v(1)); put(v(2)); put(y);
    if x < 12 then a(y); end if; put(k); put(y);
  end;
begin
  a(x); put(x);
end;"""

RECURSION = """procedure m is
  n : integer;
  function f(k : integer) return integer is begin n := n + 1; if k = 0 then return 0; end if; return 1 + f(k - 1); end;
  procedure q(k : integer; r : out integer) is begin r := f(k); exception when storage_error => r := n; end;
  r : integer;
begin
  for k in 5 .. 10 loop n := 0; q(k, r); put(r); put(f(k - 1)); end loop;
exception when storage_error => put(-1); raise;
end;"""

MAIN_RETURNS = """procedure m is x : integer; begin get(x); if x > 0 then return; end if; put(x); get(x); put(x);
exception when end_error => put(5); return; when others => put(6); end;"""

PROCEDURE_RETURNS = """procedure m is
  x : integer; procedure p(a : out integer; b : in out integer) is begin
    loop get(a); begin if a = 1 then return; end if; b := b + a; raise end_error;
      exception when end_error => if a = 2 then return; end if; b := b + 100; end; end loop;
  end;
  y : integer;
begin loop p(x, y); put(x); put(y); end loop; end;"""

TEXTS = {
    "values": (VALUES, ()), "checks": (CHECKS, (3, 0, 4, 2, 9)), "changes": (CHANGES, ()), "own": (OWN_VARIABLE, ()),
    "raises": (RAISES, ()), "elaborated": (ELABORATED, ()), "loops": (LOOPS, ()), "cases": (CASES, ()), "nested": (NESTED, ()),
    "recursion": (RECURSION, ()), "main returns": (MAIN_RETURNS, (0, 7)), "main returns 2": (MAIN_RETURNS, (4,)),
    "main returns 3": (MAIN_RETURNS, (0,)), "procedure returns": (PROCEDURE_RETURNS, (5, 2, 1, 6, 1, 2)),
}


def subprograms(tree):
    """Returns the trees of all subprograms in the order of the text."""
    found = []

    def walk(part):
        if isinstance(part, tuple):
            if len(part) >= 7 and part[0] in ("procedure", "function"):
                found.append(part)
            for inner in part:
                walk(inner)

    walk(tree)
    return found


class TreeCalls(TreeReference):
    """Notes depth and number of each activation."""

    def __init__(self, tree, inputs, fuel):
        super().__init__(inputs, fuel)
        self.numbers = {id(part): number for number, part in enumerate(subprograms(tree))}
        self.noted = []

    def activate(self, routine, cells, depth):
        self.noted.append((depth, self.numbers[id(routine.tree)]))
        return super().activate(routine, cells, depth)


class CodeCalls(CodeReference):
    """Notes depth and number of each activation."""

    def __init__(self, module, inputs, fuel):
        super().__init__(module, inputs, fuel)
        self.noted = []

    def activate(self, number, arguments, link, depth):
        self.noted.append((depth, number))
        return super().activate(number, arguments, link, depth)


class LowerTest(unittest.TestCase):

    def lowered(self, tree):
        """Returns the checked program and the module of a tree, and looks at its units."""
        program = check(tree)
        made = lower(program)
        check_module(made)
        trees = subprograms(tree)
        self.assertEqual(len(made.units), len(trees))
        for number, (unit, part) in enumerate(zip(made.units, trees)):
            around = [other for other in range(number) if any(part is inner for inner in subprograms(trees[other]))]
            self.assertEqual(unit.parent, max(around, default=-1))
            self.assertEqual(unit.arguments, len(part[2]))
            given_back = len([mode for _, mode, _, _ in part[2] if mode != "in"])
            self.assertEqual(unit.results, 1 if part[0] == "function" else given_back)
            for instruction in unit.code:
                self.assertTrue({kind for kind, _ in operands(instruction)} <= {"reg", "int"})
        self.assertEqual(made.names, program.exceptions)
        return program, made

    def same(self, tree, inputs, fuels):
        program, made = self.lowered(tree)
        for fuel in fuels:
            expected = run_source(program, inputs, fuel=fuel)
            self.assertEqual(run_module(made, inputs, fuel=fuel), expected, (fuel, inputs))
        return made

    def same_calls(self, tree, made, inputs, fuel):
        source, code = TreeCalls(tree, inputs, fuel), CodeCalls(made, inputs, fuel)
        self.assertEqual(source.run(tree), code.run())
        self.assertEqual(source.noted, code.noted)

    def whole(self, tree, inputs):
        """Looks at all fuels up to one more than the run needs, at most 800 of them."""
        program = check(tree)
        most = 0
        while most < 800 and run_source(program, inputs, fuel=most)[1] == ("exhausted",):
            most += 1
        made = self.same(tree, inputs, [*range(most + 2), 100000])
        for fuel in (0, 1, most // 2, most, 3000):
            self.same_calls(tree, made, inputs, fuel)

    def test_texts(self):
        for name, (text, inputs) in TEXTS.items():
            with self.subTest(name):
                self.whole(parse(text), list(inputs))

    def test_results_of_texts(self):
        """Some of the results as numbers, so that a fault that both ways had would be seen."""
        def words(text, inputs=()):
            events, ending = run_module(lower(check(parse(text))), list(inputs), fuel=100000)
            return [word for name, word in events if name == "put"], ending
        self.assertEqual(words(MAIN_RETURNS, (0, 7)), ([0, 7], ("normal",)))
        self.assertEqual(words(MAIN_RETURNS, (0,)), ([0, 5], ("normal",)))
        self.assertEqual(words(CASES)[0][:14], [0, 0, 1, 0, 0, 1, 0, 1, 1, 1, 2, 2, 0, 0])
        self.assertEqual(words(CASES)[0][14:], [3, 0, 3, 0, 4, 4, 0, 6, 5, 9, 8])
        self.assertEqual(words(RECURSION)[0][:4], [5, 4, 6, 5])

    def test_made_programs(self):
        for seed in range(250):
            tree = with_own_places(make_program(seed))
            rng = random.Random(seed)
            inputs = [rng.choice((0, 1, 2, 3, -1, 5, 100)) for _ in range(rng.randint(0, 6))]
            made = self.same(tree, inputs, [*range(12), 17, 25, 40, 70, 150, 400])
            self.same_calls(tree, made, inputs, 120)

    def test_each_fuel_of_made_programs(self):
        for seed in range(250, 300):
            self.same(with_own_places(make_program(seed)), [1, 2, -3, 4], range(130))

    def test_places_of_exceptions(self):
        """One operation goes wrong in each of these statements, and nothing handles it."""
        for statement in (
            "s := a;", "s := a + 1;", "s := f(2);", "v(a) := 1;", "v(1) := a;", "put(v(a));", "get(s);", "get(v(1));", "get(v(a));",
            "put(f(a));", "put(g(1, a));", "put(g(a, 1));", "p(a, a, b);", "p(1, a, b);", "p(1, s, v(a));", "p(3, s, b);", "p(4, v(1), b);",
            "p(5, b, v(2));", "p(2, a, a);", "put(a / z);", "put(a mod z);", "put(a rem z);", "put(big + a);", "put(big * a);",
            "put(z - big - big);", "put(-low);", "put(abs low);", "raise e;", "declare x : small := a; begin null; end;",
            "declare x : constant small := a; begin null; end;", "put(none);", "raise constraint_error;", "put(h(0));", "put(f(v(0)));",
            "begin raise e; exception when others => begin raise end_error; exception when end_error => null; end; raise; end;",
            "begin raise e; exception when e => begin put(1 / z); exception when others => raise; end; end;",
            "begin s := a; exception when end_error => null; when storage_error => raise e; end;",
            "begin put(1 / z); exception when constraint_error => s := a; end;", "begin get(s); put(1); exception when end_error => raise; end;",
        ):
            text = f"""procedure m is subtype small is integer range 1 .. 4; type row is array (1 .. 3) of small; e : exception;
              a : integer := 9; b : integer; s : small; v : row; z : integer; big : integer := 2147483647; low : integer := integer'first;
              function f(x : small) return small is begin return x * 3; end;
              function g(x : small; y : small) return integer is begin return x + y; end;
              function h(x : integer) return integer is begin return h(x + 1); end;
              function none return integer is begin null; exception when others => return 1; end;
              procedure p(x : small; y : in out small; o : out integer) is begin y := x; o := x * 2; b := 5; if x = 5 then y := 9; end if; end;
              begin {statement} put(7); end;"""
            tree = with_own_places(parse(text))
            for inputs in ([], [9]):
                self.same(tree, inputs, [*range(9), 100])

    def test_raise_without_a_name(self):
        """The exception of the handler around it with its first place, also behind a block that handled another one."""
        text = "procedure m is e : exception; begin begin @raise e; exception when others => begin raise end_error; "
        text, place = marked(text + "exception when end_error => null; end; raise; end; end;")
        self.assertEqual(run_module(lower(check(parse(text))), [], fuel=99)[1], ("raised", "e", *place))

    def test_nothing_is_changed(self):
        for seed in range(300, 330):
            program = check(make_program(seed))
            first = lower(program)
            before = parts(first)
            run_module(first, [1], fuel=50)
            self.assertEqual(parts(lower(program)), before)
            self.assertEqual(parts(first), before)

    def test_places_in_any_order(self):
        """All nodes with one place, places that go backward, and large ones."""
        for turn in (lambda line, column: (7, 7), lambda line, column: (100 - line, 100 - column), lambda line, column: (10 ** 9 + line, 1)):
            wrong = ("binary", "/", ("number", 1, turn(3, 9)), ("number", 0, turn(3, 13)), turn(3, 11))
            statements = (("put", ("number", 4, turn(2, 9)), turn(2, 5)), ("put", wrong, turn(3, 5)))
            tree = ("procedure", "m", (), (), statements, (), turn(1, 11))
            made = self.same(tree, [], range(5))
            self.assertEqual(run_module(made, [], fuel=9)[1], ("raised", "constraint_error", *turn(3, 11)))

    # Bounds

    def test_most_parameters_and_variables(self):
        names = [f"x{number}" for number in range(6)]
        parameters = "; ".join(f"{name} : in out integer" for name in names)
        body = " ".join(f"{name} := {name} * 2 + {at};" for at, name in enumerate(names))
        variables = " ".join(f"v{number} : integer := {number};" for number in range(34))
        use = " ".join(f"put(v{number});" for number in range(34))
        for inner in ("", "procedure inside is begin " + " ".join(f"v{n} := v{n} + x0;" for n in range(34)) + " end;"):
            call = "inside;" if inner else ""
            text = f"procedure m is a : integer := 3; procedure p({parameters}) is {variables} {inner} begin {body} {call} {use} end; "
            text += "begin p(a, a, a, a, a, a); put(a); end;"
            self.whole(parse(text), [])

    def test_most_elements(self):
        text = """procedure m is type row is array (-20 .. 19) of integer; v : row;
          procedure p is begin for i in v'first .. v'last loop v(i) := v(i) + i * i; end loop; end;
          procedure q is begin for i in v'first .. v'last loop put(v(i)); end loop; put(v(20)); end;
          begin p; p; v(3) := 1 - v(-20); q; end;"""
        self.same(parse(text), [], [*range(0, 260, 7), 1000])

    def test_most_choices(self):
        text = "procedure m is begin for i in -1 .. 21 loop case i is when " + " | ".join(f"{2 * n} .. {2 * n + 0}" for n in range(10))
        self.whole(parse(text + " => put(i); when others => put(-1); end case; end loop; end;"), [])

    def test_most_subprograms(self):
        inner = "".join(f"procedure p{n} is begin put({n}); {f'p{n - 1};' if n % 9 else ''} end; " for n in range(19))
        calls = " ".join(f"p{n};" for n in range(19))
        self.whole(parse(f"procedure m is {inner} begin {calls} end;"), [])

    def deepest(self):
        """Returns a text with statements, expressions and subprograms as deep as they may be."""
        call = "f(1, 2, 3, 4, 5, f(1, 2, 3, 4, v(x), f(1, 2, 3, v(x), x, f(x, x, v(x), v(1), x, f(6, 5, 4, 3, 2, x)))))"
        element = "v(f(1, 1, 1, 1, 1, f(1, 1, v(x), x, 1, f(1, x, x, 1, v(1), f(x, x, x, x, 2, x)))))"
        innermost = f"p({', '.join([element] * 6)}); x := {call}; "
        for _ in range(4):
            innermost = f"begin x := 1 + x - 1; raise end_error; exception when end_error => {innermost} raise; end;"
        return f"""procedure m is x : integer := 1; type row is array (1 .. 3) of integer; v : row;
          function f(a : integer; b : integer; c : integer; d : integer; e : integer; g : integer) return integer is
            h : integer := a + b + c + d + e + g; begin return 1 + h mod 3; end;
          procedure p(a : in out integer; b : in out integer; c : out integer; d : in out integer; e : out integer; g : in out integer) is
          begin a := a + 1; b := b + a; c := b; d := c; e := d; g := e + g; end;
          begin raise end_error; exception when others => {innermost} put(x); put(v(1)); put(v(2)); put(v(3)); end;"""

    def test_deepest_statements_and_expressions(self):
        text = self.deepest()
        made = self.same(parse(text), [], [*range(0, 400, 3), 5000])
        self.assertEqual(run_module(made, [], fuel=5000)[1][0], "raised")

    # Trees that are larger than a text may be

    def tree_of(self, declarations, statement, limit=60000):
        """Returns a tree with as many of a statement as the bound allows."""
        head = parse(f"procedure m is {declarations} begin null; end;")
        line = parse(f"procedure m is {declarations} begin {statement} end;")[4]
        small = len(show((*head[:4], line, *head[5:]), indent=0))
        more = len(show((*head[:4], line + line, *head[5:]), indent=0)) - small
        tree = (*head[:4], line * (1 + (limit - small) // more), *head[5:])
        self.assertLessEqual(limit - more, len(show(tree, indent=0)))
        self.assertLessEqual(len(show(tree, indent=0)), limit)
        return tree

    SHARED = "procedure z is begin b := c; d := e; f := g; v(1) := 1; end; "
    SIX = "procedure a(h : in out n; i : in out n; j : in out n; k : in out n; l : in out n; o : in out n) is begin null; end; "
    START = (
        "subtype n is integer range 0 .. 9; subtype r is integer range 0 .. 8; type s is array (0 .. 8) of r; "
        "b : r; c : r; d : r; e : r; f : r; g : r; v : s; t : boolean; w : exception; " + SHARED + SIX
    )

    def test_largest_trees(self):
        short = "procedure w is begin null; end; "
        for statement, declarations in (
            ("null;", ""), ("a(b, c, d, e, f, g);", self.START), ("a(v(b), v(c), v(d), v(e), v(f), v(g));", self.START),
            ("a(v(v(b)), v(-b), v(v(-c)), v(1), b, v(v(v(b))));", self.START), ("b := -b + -c - -d * -e;", self.START),
            ("t := b <= c and d <= e and f /= g and b >= c and not t;", self.START), ("w;", short),
            ("begin w; exception when x => w; end;", "x : exception; " + short),
            ("case b is when 1 | 2 | 3 | 4 | 5 | 6 | 7 | 8 | 9 | 0 => a(b, c, d, e, f, g); when others => raise w; end case;", self.START),
            ("case b is when 1 .. 2 | 3 .. 4 | 5 .. 6 | 7 .. 8 | 0 .. 9 => null; when others => null; end case;", self.START),
            ("if t then null; elsif t then null; else return; end if;", self.START), ("while t loop exit; end loop;", self.START),
            ("loop exit when t; end loop;", self.START), ("get(v(b));", self.START), ("put(b);", self.START), ("raise w;", self.START),
        ):
            tree = self.tree_of(declarations, statement)
            program = check(tree)
            made = lower(program)
            self.assertIsNone(check_module(made), statement)
            for fuel in (0, 50, 2000):
                self.assertEqual(run_module(made, [1, 2, 3], fuel=fuel), run_source(program, [1, 2, 3], fuel=fuel), statement)

    def test_many_parts_of_one_statement(self):
        """Branches, arms and handlers need registers one after another, not all at once."""
        start = "procedure m is a : integer; b : integer := 1; begin "
        tree = parse(start + "if a + 1 > b + 1 then put(1); elsif a = b then put(2); else put(3); end if; end;")
        _, branches, otherwise, place = tree[4][0]
        self.same((*tree[:4], (("if", branches * 900, otherwise, place),), *tree[5:]), [], (0, 1, 2, 3, 9))
        tree = parse(start + "case a + 5 is when 1 | 2 .. 3 | 6 => put(1); when 7 => put(2); when others => put(3); end case; end;")
        _, expression, arms, otherwise, place = tree[4][0]
        self.same((*tree[:4], (("case", expression, arms * 900, otherwise, place),), *tree[5:]), [], (0, 1, 2, 3, 9))
        names = [f"x{number}" for number in range(900)]
        declarations = tuple(("exception", name, P) for name in names)
        for name in ("x0", "x500", "x899", "end_error"):
            handlers = tuple(((other,), (("put", ("number", at, P), P),), P) for at, other in enumerate(names))
            tree = ("procedure", "m", (), declarations, (("raise", name, P),), handlers, P)
            self.assertLess(len(show(tree, indent=0)), 60000)
            self.same(tree, [], (0, 1, 2, 3, 9))

    def test_many_handlers_of_one_unit(self):
        tree = self.tree_of("a : exception; procedure b is begin null; end; ", "begin b; exception when a => b; end;")
        made = lower(check(tree))
        self.assertGreater(len(made.units[0].regions), 1500)
        self.assertEqual(run_module(made, [], fuel=100000), run_source(check(tree), [], fuel=100000))

    def test_large_made_programs(self):
        """The statements of made programs, many times over."""
        for seed in range(400, 420):
            tree = make_program(seed)
            once = len(show(tree, indent=0))
            head = len(show((*tree[:4], (("null", P),), *tree[5:]), indent=0))
            tree = (*tree[:4], tree[4] * max(1, (60000 - once) // max(once - head, 30)), *tree[5:])
            if len(show(tree, indent=0)) > 60000:
                continue
            try:
                check(tree)
            except ValueError:
                # The variables of the blocks are too many.
                continue
            self.same(tree, [3, 1, 4], (10, 100, 5000))


if __name__ == "__main__":
    unittest.main()
