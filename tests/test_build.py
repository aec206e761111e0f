"""Points [93] to [95], with [9], [79] and [92]: from a text to the result of its run, by all layers."""

import random
import unittest
import unittest.mock

from tests.helpers import SourceCase, marked
from tests.images import ImageMixin, any_assignment, steps_for
from tests.modules import WORDS, make_module
from tests.programs import make_program
from tests.refcode import Reference
from tests.refcpu import Cpu, counted, instruction_of, run_cpu
from tests.test_lower import TEXTS
from windowada.assign import assign
from windowada.build import build
from windowada.checkdecl import check
from windowada.declarations import parse
from windowada.errors import (
    BadRange, DuplicateName, Misplaced, ParseError, ScanError, SourceError, TooLarge, UnknownName, WrongKind, WrongMode,
)
from windowada.house import run_counts, run_text
from windowada.image import Image
from windowada.improve import improve
from windowada.link import build_image
from windowada.lower import lower
from windowada.processor import Processor
from windowada.runcall import run_source
from windowada.runner import run_module
from windowada.show import show

MAX = 2147483647

RECURSION = """procedure m is
  most : integer; depth : integer;
  procedure down(k : integer; a : in out integer; b : out integer) is
    one : integer := k * 3; two : integer := a - k; c : integer;
  begin
    depth := depth + 1; if depth > most then most := depth; end if;
    if k > 0 then down(k - 1, one, c); a := one + two + c; end if;
    b := a + k; depth := depth - 1;
  exception when storage_error => put(k); b := 9; raise;
  end;
  x : integer := 5; y : integer; n : integer;
begin
  get(n);
  loop depth := 0; most := 0; down(n, x, y); put(x); put(y); put(most); get(n); end loop;
exception when storage_error => put(most); when end_error => put(-1); end;"""

MUTUAL = """procedure m is
  function even(n : integer) return boolean is
    function odd(k : integer) return boolean is
      v : integer := n + k;
    begin if k = 0 then return false; end if; put(v); return even(k - 1); end;
  begin if n = 0 then return true; end if; return odd(n - 1); end;
  n : integer;
begin
  loop get(n); begin if even(n) then put(1); else put(0); end if; exception when storage_error => put(n); end; end loop;
end;"""

LARGE_NUMBERS = """procedure m is
  subtype big is integer range -2147483647 .. 2147483647; subtype some is integer range -70000 .. 16384;
  a : big := 2147483647; b : integer := integer'first; c : some := 16384; d : some := -16385; e : constant integer := 123456789;
  function f(x : big; y : some) return some is begin return (x / 3) mod 16385 + y; end;
begin
  put(a); put(b); put(c); put(d); put(a - e); put(b + e); put(e * 17); put(f(a, -70000)); put(-e mod 65536); put(e rem -16384);
  for i in 2147483646 .. 2147483647 loop put(i); end loop; for i in reverse b .. b + 1 loop put(i); end loop;
  case a is when 16383 | 16384 .. 70000 => put(1); when 70001 .. 2147483647 => put(2); when others => put(3); end case;
  get(a); get(c); put(c); d := a; put(d);
exception when constraint_error => put(a); put(c); raise; end;"""

HANDLERS = """procedure m is
  e : exception; q : exception; n : integer;
  procedure deep(k : integer; r : in out integer) is
  begin
    r := r + 1;
    if k = 0 then case n is when 1 => raise e; when 2 => raise q; when 3 => r := 1 / (n - 3); when 4 => get(r); when others => return; end case; end if;
    begin deep(k - 1, r); exception when q => put(k); if k = 3 then raise; end if; raise e; end;
    put(r);
  exception
    when e | end_error => if k = 5 then put(50 + k); else put(k); raise; end if;
  end;
  r : integer;
begin
  for i in 0 .. 5 loop
    n := i;
    for k in 0 .. 8 loop
      r := 0;
      begin deep(k, r); put(r); exception when constraint_error => put(-1); when e => put(-2); when others => put(-3); end;
    end loop;
  end loop;
  n := 1; deep(2, r);
end;"""

MANY_VARIABLES = (
    "procedure m is " + " ".join(f"v{n} : integer := {n * 1000};" for n in range(38))
    + " procedure p(k : integer; r : out integer) is " + " ".join(f"w{n} : integer := v{n} + k;" for n in range(36))
    + " begin r := " + " + ".join(f"w{n}" for n in range(3)) + "; " + " ".join(f"r := r + w{n} * {n};" for n in range(0, 36, 2))
    + " if k > 0 then p(k - 1, v0); r := r + v0; end if; end; "
    + "begin p(3, v1); put(v1); put(v0); " + " ".join(f"put(v{n});" for n in range(2, 38, 3)) + " p(9, v3); end;"
)

LONG_LISTS = (
    "procedure m is n : integer; procedure p is begin "
    + "case n is " + " ".join(f"when {k * 3} | {k * 3 + 1} => put({k}); n := n + 1;" for k in range(40)) + " when others => put(-n); n := n + 2; end case; end; begin "
    + "loop get(n); " + "p; " * 30 + " ".join(f"if n = {k} then put({k}); elsif n > {k * 7} then n := n - 1; end if;" for k in range(12)) + " end loop; end;"
)

ARRAYS = """procedure m is
  type row is array (-3 .. 4) of integer; type flags is array (0 .. 9) of boolean; v : row; f : flags; k : integer;
  procedure sort(low : integer; high : integer) is
    h : integer;
    procedure swap(a : in out integer; b : in out integer) is h : integer := a; begin a := b; b := h; end;
  begin
    for i in low .. high loop for j in reverse i + 1 .. high loop if v(j) < v(j - 1) then swap(v(j), v(j - 1)); f(j + 4) := true; end if; end loop; end loop;
    h := v(high + 1);
  end;
begin
  for i in v'first .. v'last loop get(v(i)); end loop;
  sort(-3, 3); for i in v'first .. v'last loop put(v(i)); end loop;
  for i in f'first .. f'last loop if f(i) then put(i); end if; end loop; sort(-3, 4);
end;"""

MORE = {
    "recursion to the bound": (RECURSION, (0, 1, 7, 8, 9)), "recursion within it": (RECURSION, (3,)), "mutual": (MUTUAL, (0, 3, 8, 9, 4)),
    "large numbers": (LARGE_NUMBERS, (70000, 5)), "large numbers 2": (LARGE_NUMBERS, (7, 16385)), "handlers": (HANDLERS, (8,)),
    "many variables": (MANY_VARIABLES, ()), "long lists": (LONG_LISTS, (0, 77)), "arrays": (ARRAYS, (5, -2, 9, 0, 3, 3, -7, 100)),
}
ALL_TEXTS = {**TEXTS, **MORE}


class BuildTest(ImageMixin, unittest.TestCase):
    """Point [93], and the points [74] to [79] for the images of texts."""

    def test_all_layers_in_turn(self):
        for name, (text, _) in ALL_TEXTS.items():
            made = lower(check(parse(text)))
            for given, image in ((improve(made), build(text)), (improve(made), build(text, improved=True)), (made, build(text, improved=False))):
                assignments = tuple(assign(unit) for unit in given.units)
                expected = build_image(given, assignments)
                self.assertIs(type(image), Image)
                self.assertEqual(vars(image), vars(expected), name)
                self.assert_form(image, given, assignments)

    def test_improved_or_not(self):
        """What is left out makes the image of this text shorter."""
        text = "procedure m is subtype s is integer range 1 .. 5; a : s := 3; begin a := 4; put(a); end;"
        self.assertLess(len(build(text).words), len(build(text, improved=False).words))
        self.assertNotIn("below", [part[0] for part in self.instructions(build(text))])
        self.assertIn("below", [part[0] for part in self.instructions(build(text, improved=False))])

    def instructions(self, image):
        return [instruction_of(word) for word in image.words]

    def test_the_same_image_each_time(self):
        for text, _ in MORE.values():
            self.assertEqual(vars(build(text)), vars(build(text)))


class ErrorsTest(SourceCase):
    """Points [9], [10], [93] and [94]."""

    def raising(self, kind, place, text):
        for function, more in ((build, {}), (build, {"improved": False}), (self.run_it, {}), (self.count_it, {})):
            with self.assertRaises(SourceError) as caught:
                function(text, **more)
            self.assertIs(type(caught.exception), kind)
            if place is not None:
                self.assertEqual((caught.exception.line, caught.exception.column), place)

    def run_it(self, text):
        return run_text(text, [1], fuel=5, windows=3)

    def count_it(self, text):
        return run_counts(text, [1], fuel=5, windows=3)

    def test_each_error_at_its_place(self):
        for kind, text in (
            (ScanError, "procedure m is begin null;\n  @? end;"), (ScanError, "procedure m is @a__b : integer; begin null; end;"), (ScanError, "procedure m is begin put(@2147483648); end;"),
            (ParseError, "procedure m is begin\nput(1) @end;"), (ParseError, "procedure m is begin null; end@"), (ParseError, "@"),
            (UnknownName, "procedure m is begin put(\n@a); end;"), (DuplicateName, "procedure m is a : integer; @a : integer; begin null; end;"),
            (WrongKind, "procedure m is begin put(@true); end;"), (WrongMode, "procedure m is a : constant integer := 1; begin @a := 2; end;"),
            (BadRange, "procedure m is subtype @s is integer range 2 .. 1; begin null; end;"), (Misplaced, "procedure m is begin @exit; end;"),
        ):
            whole, place = marked(text)
            self.raising(kind, place, whole)

    def test_the_error_of_the_first_step(self):
        for kind, text in ((ScanError, "procedure m is begin exit; put(x) end loop; @?"), (ParseError, "procedure m is begin exit; put(x) @null; end;"),
                           (Misplaced, "procedure m is begin @exit; put(1); end;")):
            whole, place = marked(text)
            self.raising(kind, place, whole)

    def test_bounds(self):
        for text in (
            "procedure m is begin " + "loop " * 5 + "null; " + "end loop; " * 5 + "end;",
            "procedure m is begin put(1 + (1 + (1 + (1 + (1 + (1 + 1)))))); end;",
            "procedure m is begin put(" + "(" * 13 + "1" + ")" * 13 + "); end;",
            "procedure m is type t is array (1 .. 41) of integer; begin null; end;",
            "procedure m is " + " ".join(f"a{n} : integer;" for n in range(41)) + " begin null; end;",
            "procedure m is " + " ".join(f"procedure a{n} is begin null; end;" for n in range(20)) + " begin null; end;",
        ):
            self.raising(TooLarge, None, text)

    def test_texts_of_more_than_4000_characters(self):
        head = "procedure m is begin null; end;"
        for wrong in (head, "? ", "procedure", "procedure m is begin put(a); end;", "procedure m is begin put(true); end; --", "@" * 40):
            for space in (" ", "\n", "?", "-"):
                self.raising(TooLarge, None, wrong + space * (4001 - len(wrong)))
        text = head + " " * (4000 - len(head))
        self.assertEqual(run_text(text, [], fuel=5, windows=3), ((), ("normal",)))
        self.assertEqual(type(build(text)), Image)


class RunsTest(unittest.TestCase):
    """Points [79], [92], [94] and [95]."""

    def test_example(self):
        text = "\nprocedure main is\n   x : integer := 3;\nbegin\n   put(x * x);\n   get(x);\nend;\n".strip("\n")
        for windows in (3, 4, 12, 32):
            self.assertEqual(run_text(text, [], fuel=3, windows=windows), ((("put", 9),), ("raised", "end_error", 5, 4)))
            self.assertEqual(run_text(text, [8], fuel=3, windows=windows), ((("put", 9), ("get", 8)), ("normal",)))
            self.assertEqual(run_text(text, [8], fuel=2, windows=windows), ((("put", 9),), ("exhausted",)))
            self.assertEqual(run_text(text, [8], fuel=0, windows=windows), ((), ("exhausted",)))
            self.assertEqual(run_counts(text, [8], fuel=3, windows=windows), (((("put", 9), ("get", 8)), ("normal",)), (0, 0, 1)))

    def test_recursion_with_counts(self):
        """As many windows as fit: one for the start and one for each activation."""
        for word, deepest in ((0, 2), (1, 3), (6, 8), (8, 10)):
            for windows in range(3, 33):
                result, counts = run_counts(RECURSION, [word], fuel=1000, windows=windows)
                many = max(0, deepest - (windows - 2))
                self.assertEqual((result[1], counts), (("normal",), (many, many, deepest)))
        result, counts = run_counts(RECURSION, [9], fuel=1000, windows=3)
        self.assertEqual((result[1], counts), (("normal",), (9, 9, 10)))

    def needed(self, text, inputs, most=700):
        """The least fuel with which a run comes to its end."""
        program = check(parse(text))
        fuel = 0
        while fuel < most and run_source(program, inputs, fuel=fuel)[1] == ("exhausted",):
            fuel += 1
        return fuel

    def test_each_fuel(self):
        """Each fuel up to one more than a run needs, improved and not, on all window files, whose number of windows changes."""
        for name, (text, inputs) in ALL_TEXTS.items():
            with self.subTest(name):
                program = check(parse(text))
                module = lower(program)
                images = (build(text), build(text, improved=False))
                processors = [self.processors(image) for image in images]
                fuels = range(self.needed(text, list(inputs)) + 2)
                for fuel in fuels if len(fuels) < 250 else [*range(40), *range(40, len(fuels), len(fuels) // 60), *fuels[-2:]]:
                    expected = run_source(program, list(inputs), fuel=fuel)
                    self.assertEqual(run_module(module, list(inputs), fuel=fuel), expected)
                    for image, row in zip(images, processors):
                        self.on_files(image, row, fuel % 10, inputs, fuel, expected)

    def processors(self, image):
        """A processor without a number of windows, and two for each number from 3 to 12."""
        return [Processor(image)] + [Processor(image, windows=windows, trapping=trapping) for windows in range(3, 13) for trapping in (True, False)]

    def on_files(self, image, processors, turn, inputs, fuel, expected):
        """Compares the runs on a Tower, on Banks and on a Ring."""
        steps = steps_for(image, fuel)
        one, other = processors[1 + 2 * turn:3 + 2 * turn]
        for processor in (processors[0], one, other):
            given = list(inputs)
            self.assertEqual(processor.run(given, fuel=fuel, steps=steps), expected, (fuel, turn))
            self.assertEqual(given, list(inputs))
        self.assertEqual(one.counts, other.counts)
        spills, fills, deepest = one.counts
        self.assertEqual(deepest, processors[0].counts[2])
        if expected[1][0] in ("normal", "raised"):
            self.assertEqual(spills, fills)
        if deepest <= turn + 3 - 2:
            self.assertEqual((spills, fills), (0, 0))
        else:
            self.assertGreater(spills, 0)

    def test_all_numbers_of_windows(self):
        for name, (text, inputs) in ALL_TEXTS.items():
            image = build(text)
            program = check(parse(text))
            processors = self.processors(image)
            cpu = Cpu(image)
            self.assertEqual(cpu.run(inputs, 2000, steps_for(image, 2000)), run_source(program, list(inputs), fuel=2000))
            self.assertTrue(cpu.is_plain)
            for turn in range(10):
                for fuel in (30, 2000):
                    self.on_files(image, processors, turn, inputs, fuel, run_source(program, list(inputs), fuel=fuel))
                self.assertEqual(processors[1 + 2 * turn].counts, counted(cpu.shifts, turn + 3), name)

    def test_run_text_and_run_counts(self):
        for text, inputs in ALL_TEXTS.values():
            program = check(parse(text))
            for windows, fuel in ((3, 0), (3, 5000), (4, 60), (7, 5000), (12, 33), (32, 5000)):
                given = list(inputs)
                expected = run_source(program, given, fuel=fuel)
                self.assertEqual(run_text(text, given, fuel=fuel, windows=windows), expected)
                result, counts = run_counts(text, given, fuel=fuel, windows=windows)
                self.assertEqual(given, list(inputs))
                image = build(text)
                processor = Processor(image, windows=windows)
                self.assertEqual((result, counts), (processor.run(given, fuel=fuel, steps=steps_for(image, fuel)), processor.counts))
                self.assertEqual(result, expected)
                self.assertIs(type(counts), tuple)

    def test_steps_that_are_given(self):
        """The count of point [94]."""
        given = []

        class Noting(Processor):
            def run(self, inputs, *, fuel, steps):
                given.append((inputs, fuel, steps))
                return super().run(inputs, fuel=fuel, steps=steps)

        for text, inputs in MORE.values():
            words = len(build(text).words)
            for fuel in (0, 1, 7, 100):
                with unittest.mock.patch("windowada.house.Processor", Noting):
                    run_text(text, list(inputs), fuel=fuel, windows=4)
                    run_counts(text, list(inputs), fuel=fuel, windows=4)
                self.assertEqual(given, [(list(inputs), fuel, 60 * (words + 60) * (fuel + 2))] * 2)
                given.clear()

    def test_deepest(self):
        """The greatest depth of an activation."""
        for text, inputs in ALL_TEXTS.values():
            for fuel in (0, 1, 10, 50, 3000):
                code = Reference(lower(check(parse(text))), list(inputs), fuel)
                code.run()
                deepest = max([1] + [depth + 1 for depth, _, _ in code.calls if depth < 10])
                self.assertEqual(run_counts(text, list(inputs), fuel=fuel, windows=3)[1][2], deepest)

    def test_made_programs(self):
        """Texts of made programs; none of them needs more steps, and none has a fault."""
        many = 0
        for seed in range(500, 640):
            text = show(make_program(seed), indent=seed % 3)
            if len(text) > 4000:
                continue
            many += 1
            rng = random.Random(seed)
            inputs = [rng.choice((0, 1, 2, 3, -1, 5, 100, MAX)) for _ in range(rng.randint(0, 6))]
            program = check(parse(text))
            for image in (build(text), build(text, improved=False)):
                processors = self.processors(image)
                for fuel in (*range(8), 13, 30, 71, 150):
                    self.on_files(image, processors, (seed + fuel) % 10, inputs, fuel, run_source(program, inputs, fuel=fuel))
        self.assertGreater(many, 60)

    def test_made_modules(self):
        """Point [79] on all window files, with places that point [75] allows."""
        rng = random.Random(12)
        pool = [("local", 0), ("local", 7), ("in", 0), ("in", 5), ("slot", 0), ("slot", 30)]
        for seed in range(2000, 2400):
            made = make_module(seed)
            image = build_image(made, tuple(any_assignment(rng, part, pool) for part in made.units))
            processors = self.processors(image)
            for fuel in (0, 1, 2, 4, 9, 25):
                inputs = [rng.choice(WORDS) for _ in range(rng.randint(0, 5))]
                expected = run_module(made, inputs, fuel=fuel)
                if expected[1] != ("fault",):
                    self.on_files(image, processors, seed % 10, inputs, fuel, expected)

    def test_steps_of_long_runs(self):
        """Far fewer steps than point [79] gives are needed."""
        text = "procedure m is n : integer; begin loop n := n + 1; if n mod 2 = 0 then null; end if; end loop; end;"
        image = build(text)
        cpu = Cpu(image)
        self.assertEqual(cpu.run([], 3000, steps_for(image, 3000)), ((), ("exhausted",)))
        self.assertLess(cpu.used, steps_for(image, 3000) // 10)
        self.assertEqual(run_text(text, [], fuel=100000, windows=3), ((), ("exhausted",)))

    def test_runs_stay_the_same(self):
        image = build(HANDLERS)
        before = vars(image).copy(), dict(image.places)
        for windows in (3, 5, None):
            processor = Processor(image, windows=windows)
            first = [processor.run([2], fuel=fuel, steps=steps_for(image, fuel)) for fuel in (0, 10, 100, 3000)]
            self.assertEqual([processor.run([2], fuel=fuel, steps=steps_for(image, fuel)) for fuel in (3000, 100, 10, 0)], first[::-1])
            self.assertEqual(first[3], run_cpu(image, [2], 3000, steps_for(image, 3000)))
        self.assertEqual((vars(image), image.places), before)


if __name__ == "__main__":
    unittest.main()
