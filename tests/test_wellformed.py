"""Point [54]: the rules for well-formed modules, each one broken alone, and the bounds at the bound."""

import unittest

from tests.modules import MAX, MIN, NAMES, PLACES, main, make_module, module, parts, unit
from windowada.code import Module, Unit
from windowada.errors import AdaError, CodeError
from windowada.wellformed import check_module

TICK, END, R0, R3, ZERO = ("tick",), ("return", ()), ("reg", 0), ("reg", 3), ("int", 0)
EMPTY = (TICK, END)


def tree(*parents, **more):
    """Returns a module whose units have the given parents, the first one -1."""
    return module(*[unit(EMPTY, parent=parent, **more) for parent in parents])


class WellFormedTest(unittest.TestCase):

    def good(self, made):
        before = parts(made)
        self.assertIsNone(check_module(made))
        self.assertEqual(parts(made), before)

    def bad(self, made):
        with self.assertRaises(CodeError) as caught:
            check_module(made)
        self.assertIs(type(caught.exception), CodeError)
        self.assertIsInstance(caught.exception, AdaError)

    def test_made_modules(self):
        for seed in range(300):
            self.good(make_module(seed))

    def test_count_of_units(self):
        self.bad(Module((), NAMES, PLACES))
        self.good(tree(-1))
        self.good(tree(-1, *[0] * 19))
        self.bad(tree(-1, *[0] * 20))

    def test_names(self):
        for names in (NAMES, (*NAMES, "a"), (*NAMES, "a", "a", "end_error")):
            self.good(Module((unit(EMPTY),), names, PLACES))
        for names in ((), NAMES[:3], NAMES[1:], ("a", *NAMES), NAMES[::-1], (*NAMES[:3], "a")):
            self.bad(Module((unit(EMPTY),), names, PLACES))

    def test_unit_0(self):
        self.bad(tree(0))
        self.bad(tree(-2))
        self.bad(tree(1, 0))
        self.bad(module(unit(EMPTY, arguments=1)))
        self.bad(module(unit((TICK, ("return", (ZERO,))), results=1)))

    def test_parents(self):
        self.good(tree(-1, 0, 1, 0, 3))
        for parents in ((-1, -1), (-1, 1), (-1, 2, 0), (-1, 0, 2), (-1, 0, -1), (-1, -2), (-1, 7)):
            self.bad(tree(*parents))

    def test_units_around(self):
        self.good(tree(-1, 0, 1, 2))
        self.good(tree(-1, 0, 1, 2, 2, 1))
        self.bad(tree(-1, 0, 1, 2, 3))
        self.bad(tree(-1, 0, 1, 2, 0, 3))

    def test_counts(self):
        """Arguments, results, registers and cells."""
        def of(arguments, results, registers, cells):
            code = (TICK, ("return", (ZERO,) * max(results, 0)))
            return module(unit(EMPTY), Unit(0, arguments, results, registers, cells, code, ()))
        for counts in ((0, 0, 0, 0), (6, 6, 6, 60), (6, 0, 200, 0), (0, 6, 0, 60), (1, 1, 1, 1)):
            self.good(of(*counts))
        for counts in (
            (-1, 0, 0, 0), (7, 0, 9, 0), (0, -1, 0, 0), (0, 7, 9, 0), (1, 0, 0, 0), (6, 0, 5, 0), (0, 0, -1, 0),
            (0, 0, 201, 0), (0, 0, 0, -1), (0, 0, 0, 61),
        ):
            self.bad(of(*counts))

    def test_results_of_a_unit_without_a_return(self):
        for results, check in ((-1, self.bad), (0, self.good), (6, self.good), (7, self.bad)):
            check(module(unit(EMPTY), unit((TICK, ("jump", 0)), parent=0, results=results)))

    def test_count_of_instructions(self):
        self.bad(module(unit(())))
        self.bad(module(unit(EMPTY), unit((), parent=0)))
        # One instruction would have to be a tick and a jump, return, raise or again.
        self.bad(module(unit((TICK,))))
        self.bad(module(unit((END,))))
        self.good(module(unit(EMPTY)))
        self.good(module(unit((TICK,) * 99999 + (END,))))
        self.bad(module(unit((TICK,) * 100000 + (END,))))

    def test_count_of_regions(self):
        self.good(main(regions=((0, 1, 1, 0, 1),) * 2000))
        self.bad(main(regions=((0, 1, 1, 0, 1),) * 2001))

    def test_first_instruction(self):
        for first in (("put", ZERO), ("move", 0, ZERO), ("jump", 1), END, ("raise", 0, 0)):
            self.bad(module(unit((first, TICK, END))))

    def test_last_instruction(self):
        for last in (END, ("jump", 0), ("raise", 3, 0), ("again", R0, R0)):
            self.good(module(unit((TICK, last))))
        for last in (
            TICK, ("move", 0, R0), ("neg", 0, R0, 0), ("abs", 0, R0, 0), ("add", 0, R0, R0, 0), ("less", 0, R0, R0),
            ("equal", 0, R0, R0), ("check", R0, 0, 0, 0), ("branch", R0, 0), ("put", R0), ("get", 0, 0),
        ):
            self.bad(module(unit((TICK, last))))
        for last in (("load", 0, 0, 0, 1, ZERO), ("store", 0, 0, 1, ZERO, ZERO)):
            self.bad(module(unit((TICK, last), cells=1)))
            self.good(module(unit((TICK, last, END), cells=1)))
        self.bad(module(unit((TICK, ("call", 1, 0, (), (), 0))), unit(EMPTY, parent=0)))

    def test_targets(self):
        code = (TICK, TICK, ("put", R0), None, ("put", R0), TICK, END)
        for target in range(-2, 10):
            for way in (("jump", target), ("branch", R0, target), ("branch", ("int", 1), target)):
                made = module(unit(tuple(part or way for part in code)))
                # 4 and 5 are behind it; of those ahead only ticks are targets.
                if target in (0, 1, 4, 5, 6):
                    self.good(made)
                else:
                    self.bad(made)
        self.bad(module(unit((TICK, ("jump", 1)))))
        self.bad(module(unit((TICK, ("branch", R0, 1), END))))

    def test_numbers_of_registers(self):
        forms = (
            lambda n: ("move", n, R0), lambda n: ("move", 0, ("reg", n)), lambda n: ("neg", n, R0, 0),
            lambda n: ("neg", 0, ("reg", n), 0), lambda n: ("abs", n, R0, 0), lambda n: ("abs", 0, ("reg", n), 0),
            lambda n: ("add", n, R0, R0, 0), lambda n: ("sub", 0, ("reg", n), R0, 0),
            lambda n: ("mul", 0, R0, ("reg", n), 0), lambda n: ("div", n, R0, R0, 0),
            lambda n: ("mod", 0, ("reg", n), R0, 0), lambda n: ("rem", 0, R0, ("reg", n), 0),
            lambda n: ("less", n, R0, R0), lambda n: ("less", 0, ("reg", n), R0), lambda n: ("equal", 0, R0, ("reg", n)),
            lambda n: ("check", ("reg", n), 0, 0, 0), lambda n: ("load", n, 0, 0, 1, R0),
            lambda n: ("load", 0, 0, 0, 1, ("reg", n)), lambda n: ("store", 0, 0, 1, ("reg", n), R0),
            lambda n: ("store", 0, 0, 1, R0, ("reg", n)), lambda n: ("branch", ("reg", n), 2),
            lambda n: ("call", 1, 0, (("reg", n), R0), (1, 2), 0), lambda n: ("call", 1, 0, (R0, R0), (1, n), 0),
            lambda n: ("put", ("reg", n)), lambda n: ("get", n, 0), lambda n: ("again", ("reg", n), R0),
            lambda n: ("again", R0, ("reg", n)),
        )
        other = unit((TICK, ("return", (R3, R0))), parent=0, arguments=2, results=2)
        for form in forms:
            for number, check in ((3, self.good), (4, self.bad), (-1, self.bad), (10 ** 12, self.bad)):
                check(module(unit((TICK, form(number), END), cells=1), other))
        for number in (4, -1):
            last = (TICK, ("return", (R3, ("reg", number))))
            self.bad(module(unit(EMPTY), unit(last, parent=0, arguments=2, results=2)))
        self.bad(module(unit((TICK, ("put", R0), END), registers=0)))

    def test_numbers_of_places(self):
        forms = (
            lambda p: ("neg", 0, R0, p), lambda p: ("abs", 0, R0, p), lambda p: ("add", 0, R0, R0, p),
            lambda p: ("sub", 0, R0, R0, p), lambda p: ("mul", 0, R0, R0, p), lambda p: ("div", 0, R0, R0, p),
            lambda p: ("mod", 0, R0, R0, p), lambda p: ("rem", 0, R0, R0, p), lambda p: ("check", R0, 0, 0, p),
            lambda p: ("call", 1, 0, (), (), p), lambda p: ("raise", 0, p), lambda p: ("get", 0, p),
        )
        for form in forms:
            for place, check in ((0, self.good), (3, self.good), (4, self.bad), (-1, self.bad)):
                check(module(unit((TICK, form(place), END)), unit(EMPTY, parent=0)))
            self.bad(module(unit((TICK, form(0), END)), unit(EMPTY, parent=0), places=()))
        self.good(module(unit(EMPTY), places=()))

    def test_numbers_of_exceptions(self):
        for number, check in ((0, self.good), (3, self.good), (4, self.bad), (-1, self.bad)):
            check(main(("raise", number, 0)))
        self.good(module(unit((TICK, ("raise", 4, 0))), names=(*NAMES, "a")))
        # again is looked at when it runs.
        self.good(main(("again", ("int", 99), ("int", -1))))

    def test_words(self):
        forms = (
            lambda w: ("move", 0, ("int", w)), lambda w: ("neg", 0, ("int", w), 0), lambda w: ("add", 0, R0, ("int", w), 0),
            lambda w: ("add", 0, ("int", w), R0, 0), lambda w: ("less", 0, ("int", w), R0),
            lambda w: ("check", ("int", w), 0, 0, 0), lambda w: ("load", 0, 0, 0, 1, ("int", w)),
            lambda w: ("store", 0, 0, 1, ("int", w), R0), lambda w: ("store", 0, 0, 1, R0, ("int", w)),
            lambda w: ("branch", ("int", w), 2), lambda w: ("call", 1, 0, (("int", w),), (1,), 0),
            lambda w: ("put", ("int", w)), lambda w: ("again", ("int", w), R0), lambda w: ("again", R0, ("int", w)),
        )
        other = unit((TICK, ("return", (R3,))), parent=0, arguments=1, results=1)
        for form in forms:
            for word, check in ((MIN, self.good), (MAX, self.good), (MIN - 1, self.bad), (MAX + 1, self.bad)):
                check(module(unit((TICK, form(word), END), cells=1), other))
        for word in (MIN - 1, MAX + 1):
            self.bad(module(unit(EMPTY), unit((TICK, ("return", (("int", word),))), parent=0, results=1)))

    def test_bounds_of_checks(self):
        for low, high in ((MIN, MAX), (MIN, MIN), (MAX, MAX), (0, 0), (-1, 1)):
            self.good(main(("check", R0, low, high, 0)))
        for low, high in ((1, 0), (0, -1), (MIN - 1, 0), (0, MAX + 1), (MAX, MIN), (MAX + 1, MAX + 1), (MIN - 1, MIN - 1)):
            self.bad(main(("check", R0, low, high, 0)))
            self.bad(main(("check", ZERO, low, high, 0)))

    def test_cells(self):
        """Unit 3 has 5 cells, unit 2 has 3, unit 1 has 0 and unit 0 has 1."""
        def of(instruction):
            units = [unit(EMPTY, cells=1), unit(EMPTY, parent=0), unit(EMPTY, parent=1, cells=3)]
            return module(*units, unit((TICK, instruction, END), parent=2, cells=5))
        good = [(0, 0, 1), (0, 4, 1), (0, 0, 5), (0, 2, 3), (1, 2, 1), (1, 0, 3), (3, 0, 1)]
        bad = [
            (0, 5, 1), (0, 0, 6), (0, 2, 4), (0, -1, 1), (0, -1, 3), (0, 0, 0), (0, 0, -1), (0, 5, 0), (0, 6, -1),
            (1, 3, 1), (1, 0, 4), (1, 1, 3), (2, 0, 1), (3, 0, 2), (3, 1, 1), (4, 0, 1), (-1, 0, 1), (-2, 0, 1),
        ]
        for cells in good:
            self.good(of(("load", 0, *cells, R0)))
            self.good(of(("store", *cells, R0, R0)))
        for cells in bad:
            self.bad(of(("load", 0, *cells, R0)))
            self.bad(of(("store", *cells, R0, R0)))

    def test_called_units(self):
        """The units are 0, 1 in 0, 2 in 1, 3 in 2, 4 in 0 and 5 in 1."""
        parents = (-1, 0, 1, 2, 0, 1)
        good = {
            0: {(1, 0), (4, 0)}, 1: {(2, 0), (5, 0), (1, 1), (4, 1)},
            2: {(3, 0), (2, 1), (5, 1), (1, 2), (4, 2)}, 3: {(3, 1), (2, 2), (5, 2), (1, 3), (4, 3)},
            4: {(1, 1), (4, 1)}, 5: {(2, 1), (5, 1), (1, 2), (4, 2)},
        }
        for caller, rows in good.items():
            for called in range(-1, 8):
                for hops in range(-1, 5):
                    units = [unit(EMPTY, parent=parent) for parent in parents]
                    units[caller] = unit((TICK, ("call", called, hops, (), (), 0), END), parent=parents[caller])
                    if (called, hops) in rows:
                        self.good(module(*units))
                    else:
                        self.bad(module(*units))

    def test_counts_of_calls(self):
        other = unit((TICK, ("return", (R0, R0))), parent=0, arguments=3, results=2)
        for arguments in range(7):
            for results in range(5):
                call = ("call", 1, 0, (R0,) * arguments, tuple(range(results)), 0)
                made = module(unit((TICK, call, END)), other)
                if (arguments, results) == (3, 2):
                    self.good(made)
                else:
                    self.bad(made)

    def test_results_of_calls_are_different(self):
        other = unit((TICK, ("return", (R0,) * 3)), parent=0, results=3)
        for results, check in (
            ((0, 1, 2), self.good), ((2, 0, 1), self.good), ((0, 0, 1), self.bad), ((0, 1, 0), self.bad), ((1, 1, 1), self.bad),
        ):
            check(module(unit((TICK, ("call", 1, 0, (), results, 0), END)), other))

    def test_returned_values(self):
        for values in range(5):
            made = module(unit(EMPTY), unit((TICK, ("return", (R0,) * values)), parent=0, results=2))
            if values == 2:
                self.good(made)
            else:
                self.bad(made)
        self.bad(module(unit((TICK, ("return", (R0,))))))
        # A return that nothing reaches is looked at, too.
        self.bad(module(unit((TICK, ("jump", 0), ("return", (R0,)), END))))

    def test_regions(self):
        code = (TICK,) * 5 + (END,)
        good = [(0, 1, 1), (0, 5, 5), (4, 5, 5), (1, 2, 5), (2, 3, 3)]
        bad = [
            (-1, 1, 1), (1, 1, 1), (2, 1, 3), (0, 2, 1), (1, 3, 0), (1, 3, 2), (0, 5, 6), (0, 6, 6), (5, 6, 6), (0, 1, -1),
            (0, 0, 0), (3, 3, 4),
        ]
        for region in good:
            self.good(module(unit(code, regions=((*region, 0, 1),))))
            self.good(module(unit(code, regions=((*region, 3, 2), (0, 2, 2, 1, 0), (*region, 2, 3)))))
        for region in bad:
            self.bad(module(unit(code, regions=((*region, 0, 1),))))
            self.bad(module(unit(code, regions=((0, 1, 1, 0, 1), (*region, 0, 1)))))
        for registers in ((0, 0), (3, 3), (4, 0), (0, 4), (-1, 0), (0, -1)):
            self.bad(module(unit(code, regions=((0, 1, 1, *registers),))))

    def test_each_unit_is_looked_at(self):
        units = [unit(EMPTY), unit(EMPTY, parent=0), unit(EMPTY, parent=1)]
        for number, parent in ((0, -1), (1, 0), (2, 1)):
            wrong = list(units)
            wrong[number] = unit((TICK, ("put", ("reg", 4)), END), parent=parent)
            self.bad(module(*wrong))


if __name__ == "__main__":
    unittest.main()
