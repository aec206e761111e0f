"""Points [4] to [8], [26], [47] to [53], [55] and [58]: runs of intermediate code."""

import random
import unittest

from tests.modules import MAX, MIN, NAMES, PLACES, WORDS, main, make_module, module, parts, unit
from tests.refcode import run_reference
from windowada.code import Module, Unit
from windowada.runner import run_module
from windowada.trace import trace_module

TICK, END = ("tick",), ("return", ())
R = [("reg", number) for number in range(8)]
I = {number: ("int", number) for number in range(-9, 99)}
NORMAL, EXHAUSTED, FAULT = ("normal",), ("exhausted",), ("fault",)


def puts(*words):
    return tuple(("put", word) for word in words)


def raised(number, place):
    return ("raised", NAMES[number], *PLACES[place])


class RunnerTest(unittest.TestCase):

    def look(self, made, events, ending, inputs=(), fuel=1000):
        self.assertEqual(run_module(made, list(inputs), fuel=fuel), (events, ending))

    def body(self, *code, events=(), ending=NORMAL, inputs=(), **more):
        """Looks at the run of a main program with these instructions."""
        self.look(main(*code, **more), events, ending, inputs)

    # Operators

    def test_example_of_the_document(self):
        made = Unit(-1, 0, 0, 1, 0, (("tick",), ("get", 0, 0), ("put", ("reg", 0)), ("return", ())), ())
        result = run_module(Module((made,), NAMES, ((1, 1),)), [4], fuel=100)
        self.assertEqual(result, ((("get", 4), ("put", 4)), ("normal",)))

    def operator(self, name, words, result):
        """Looks at an operator over words as numbers and as registers, with place 1; result None raises."""
        target = ("move", 3, I[55])
        numbers = tuple(("int", word) for word in words)
        moves = [("move", at, ("int", word)) for at, word in enumerate(words)]
        place = () if name in ("less", "equal") else (1,)
        for operands in (numbers, tuple(R[:len(words)])):
            code = (*moves, target, (name, 3, *operands, *place), ("put", R[3]))
            if result is None:
                self.body(*code, ending=raised(0, 1))
            else:
                self.body(*code, events=puts(result))

    def test_move(self):
        for word in (0, 1, MIN, MAX):
            self.body(("move", 0, ("int", word)), ("move", 1, R[0]), ("put", R[1]), events=puts(word))

    def test_neg_and_abs(self):
        for word, negative, absolute in ((0, 0, 0), (5, -5, 5), (-5, 5, 5), (MAX, -MAX, MAX), (MIN, None, None), (MIN + 1, MAX, MAX)):
            self.operator("neg", (word,), negative)
            self.operator("abs", (word,), absolute)

    def test_add_sub_mul(self):
        for name, left, right, result in (
            ("add", 2, 3, 5), ("add", MAX, 0, MAX), ("add", MAX, 1, None), ("add", MIN, -1, None), ("add", MIN, MAX, -1),
            ("add", MAX, MAX, None), ("add", MIN, MIN, None), ("sub", 2, 3, -1), ("sub", MIN, 0, MIN), ("sub", MIN, 1, None),
            ("sub", 0, MIN, None), ("sub", -1, MIN, MAX), ("sub", MAX, -1, None), ("sub", MIN, MIN, 0), ("mul", -3, 4, -12),
            ("mul", 65536, 32768, None), ("mul", 65536, -32768, MIN), ("mul", MIN, -1, None), ("mul", MIN, 1, MIN),
            ("mul", MAX, MAX, None), ("mul", MIN, MIN, None), ("mul", MIN, 0, 0),
        ):
            self.operator(name, (left, right), result)

    def test_div_mod_rem(self):
        for left, right, quotient, modulus, remainder in (
            (7, 2, 3, 1, 1), (-7, 2, -3, 1, -1), (7, -2, -3, -1, 1), (-7, -2, 3, -1, -1), (6, 3, 2, 0, 0), (-6, 3, -2, 0, 0),
            (0, 5, 0, 0, 0), (0, -5, 0, 0, 0), (1, MAX, 0, 1, 1), (-1, MAX, 0, MAX - 1, -1), (1, MIN, 0, MIN + 1, 1),
            (MIN, -1, None, 0, 0), (MIN, 1, MIN, 0, 0), (MIN, MAX, -1, MAX - 1, -1), (MAX, MIN, 0, -1, MAX), (MIN, MIN, 1, 0, 0),
            (5, 0, None, None, None), (0, 0, None, None, None), (MIN, 0, None, None, None),
        ):
            self.operator("div", (left, right), quotient)
            self.operator("mod", (left, right), modulus)
            self.operator("rem", (left, right), remainder)

    def test_less_and_equal(self):
        for left, right in ((0, 0), (1, 2), (2, 1), (MIN, MAX), (MAX, MIN), (MIN, MIN), (-1, 1), (MAX, MAX)):
            self.operator("less", (left, right), 1 if left < right else 0)
            self.operator("equal", (left, right), 1 if left == right else 0)

    def test_check(self):
        for low, high in ((1, 3), (-2, -2), (MIN, MAX), (MIN, 0), (0, MAX)):
            for word in (low - 1, low, high, high + 1):
                if MIN <= word <= MAX:
                    ending = NORMAL if low <= word <= high else raised(0, 3)
                    self.body(("check", ("int", word), low, high, 3), ending=ending)
                    self.body(("move", 2, ("int", word)), ("check", R[2], low, high, 3), ending=ending)

    def test_an_instruction_that_raises_writes_nothing(self):
        big = ("move", 0, ("int", MIN))
        for wrong in (
            ("neg", 0, R[0], 1), ("abs", 0, R[0], 1), ("sub", 0, R[0], I[1], 1), ("div", 0, R[0], I[0], 1), ("mod", 0, R[0], I[0], 1),
            ("rem", 0, R[0], I[0], 1), ("div", 0, R[0], I[-1], 1), ("mul", 0, R[0], R[0], 1), ("add", 0, R[0], R[0], 1),
        ):
            self.body(big, wrong, END, ("put", R[0]), events=puts(MIN), regions=((2, 3, 4, 1, 2),))
        self.body(big, ("get", 0, 1), END, ("put", R[0]), events=puts(MIN), regions=((2, 3, 4, 1, 2),))

    def test_operands_are_read_before_anything_is_written(self):
        self.body(
            ("move", 0, I[7]), ("sub", 0, R[0], R[0], 0), ("put", R[0]), ("move", 1, I[3]), ("sub", 1, I[10], R[1], 0), ("put", R[1]),
            ("mul", 1, R[1], R[1], 0), ("put", R[1]), ("less", 1, R[0], R[1]), ("put", R[1]), ("neg", 1, R[1], 0), ("put", R[1]),
            events=puts(0, 7, 49, 1, -1),
        )
        # The results of a call go into registers that are also its arguments.
        other = unit((TICK, ("return", (R[1], R[0]))), parent=0, arguments=2, results=2)
        call = (TICK, ("move", 0, I[1]), ("move", 1, I[2]), ("call", 1, 0, (R[0], R[1]), (0, 1), 0), ("put", R[0]), ("put", R[1]), END)
        self.look(module(unit(call), other), puts(2, 1), NORMAL)

    # Cells

    def test_load_and_store(self):
        for count in (1, 2, 4):
            for offset in (0, count - 1, -1, count, MIN, MAX):
                for operand in (("int", offset), R[2]):
                    ending = NORMAL if 0 <= offset < count else FAULT
                    start = (("move", 2, ("int", offset)), ("put", I[4]))
                    store = (*start, ("store", 0, 1, count, operand, I[9]), ("put", I[5]))
                    events = puts(4, 5) if ending == NORMAL else puts(4)
                    self.body(*store, events=events, ending=ending, cells=5)
                    load = (*start, ("load", 0, 0, 1, count, operand), ("put", I[5]))
                    self.body(*load, events=events, ending=ending, cells=5)

    def test_which_cell(self):
        fill = [("store", 0, 0, 6, I[at], I[at + 10]) for at in range(6)]
        for cell in range(6):
            for count in range(1, 7 - cell):
                for offset in range(count):
                    self.body(*fill, ("load", 0, 0, cell, count, I[offset]), ("put", R[0]), events=puts(10 + cell + offset), cells=6)
                    change = (("store", 0, cell, count, I[offset], I[7]), ("load", 1, 0, 0, 6, I[cell + offset]), ("put", R[1]))
                    self.body(*fill, *change, events=puts(7), cells=6)

    def test_a_fault_is_no_exception(self):
        self.body(("load", 0, 0, 0, 1, I[1]), ("put", I[1]), ending=FAULT, cells=1, regions=((0, 3, 3, 0, 1),))

    def test_a_load_may_write_its_operand(self):
        code = (("store", 0, 0, 3, I[2], I[40]), ("move", 0, I[2]), ("load", 0, 0, 0, 3, R[0]), ("put", R[0]))
        self.body(*code, events=puts(40), cells=3)
        code = (("move", 0, I[2]), ("store", 0, 0, 3, R[0], R[0]), ("load", 1, 0, 2, 1, I[0]), ("put", R[1]))
        self.body(*code, events=puts(2), cells=3)

    # Ways

    def test_jump_and_branch(self):
        self.body(("jump", 3), ("put", I[1]), ("put", I[2]), events=puts(2))
        for word in (0, 1, -1, 2, MIN, MAX):
            events = puts(1, 2) if word == 0 else puts(2)
            self.body(("branch", ("int", word), 3), ("put", I[1]), ("put", I[2]), events=events)
            self.body(("move", 0, ("int", word)), ("branch", R[0], 4), ("put", I[1]), ("put", I[2]), events=events)

    def test_loop(self):
        code = (TICK, ("add", 0, R[0], I[1], 0), ("put", R[0]), ("less", 1, R[0], I[3]), ("branch", R[1], 0), END)
        self.look(module(unit(code)), puts(1, 2, 3), NORMAL, fuel=3)
        self.look(module(unit(code)), puts(1, 2), EXHAUSTED, fuel=2)
        self.look(module(unit((TICK, ("jump", 0)))), (), EXHAUSTED, fuel=100000)

    # Fuel and inputs

    def test_each_fuel(self):
        code = (TICK, ("put", I[1]), TICK, TICK, ("put", I[2]), TICK, END)
        for fuel, events, ending in (
            (0, (), EXHAUSTED), (1, puts(1), EXHAUSTED), (2, puts(1), EXHAUSTED), (3, puts(1, 2), EXHAUSTED),
            (4, puts(1, 2), NORMAL), (5, puts(1, 2), NORMAL), (100000, puts(1, 2), NORMAL),
        ):
            self.look(module(unit(code)), events, ending, fuel=fuel)
        # No handler runs when there is no fuel.
        self.look(module(unit(code, regions=((0, 6, 6, 0, 1),))), (), EXHAUSTED, fuel=0)

    def test_inputs(self):
        code = (("get", 0, 1), ("put", R[0]), ("get", 1, 2), ("put", R[1]))
        for inputs, events, ending in (
            ((), (), raised(3, 1)), ((5,), (("get", 5), ("put", 5)), raised(3, 2)),
            ((5, MIN), (("get", 5), ("put", 5), ("get", MIN), ("put", MIN)), NORMAL),
            ((5, 6, 7), (("get", 5), ("put", 5), ("get", 6), ("put", 6)), NORMAL),
        ):
            self.body(*code, events=events, ending=ending, inputs=inputs)

    def test_many_inputs(self):
        loop = module(unit((TICK, ("get", 0, 3), ("jump", 0))))
        words = list(range(200))
        self.look(loop, tuple(("get", word) for word in words), raised(3, 3), words)

    # Calls

    def test_arguments_and_results(self):
        shuffled = unit((TICK, ("return", (R[2], I[8], R[0], R[1], R[0], I[-9]))), parent=0, arguments=3, results=6, registers=3)
        call = ("call", 1, 0, (I[1], R[0], I[3]), (5, 4, 3, 2, 1, 0), 0)
        code = (TICK, ("move", 0, I[2]), call, *[("put", R[at]) for at in range(7)], END)
        self.look(module(unit(code, registers=7), shuffled), puts(-9, 1, 2, 1, 8, 3, 0), NORMAL)

    def test_registers_and_cells_start_with_0(self):
        """The second call sees nothing of the first one."""
        code = (TICK, *[("put", R[at]) for at in range(4)], ("load", 3, 0, 0, 2, I[0]), ("put", R[3]), ("load", 3, 0, 0, 2, I[1]))
        code += (("put", R[3]), *[("move", at, I[9]) for at in range(4)], *[("store", 0, 0, 2, I[at], I[9]) for at in (0, 1)], END)
        other = unit(code, parent=0, arguments=2, cells=2)
        call = ("call", 1, 0, (I[5], I[6]), (), 0)
        self.look(module(unit((TICK, call, call, END)), other), puts(*[5, 6, 0, 0, 0, 0] * 2), NORMAL)

    def test_registers_of_the_caller_stay(self):
        other = unit((TICK, ("move", 0, I[9]), ("move", 1, I[9]), ("return", (R[0],))), parent=0, arguments=1, results=1)
        code = (TICK, ("move", 0, I[4]), ("move", 1, I[5]), ("call", 1, 0, (R[0],), (2,), 0), *[("put", R[at]) for at in range(3)], END)
        self.look(module(unit(code), other), puts(4, 5, 9), NORMAL)

    def test_static_links(self):
        """Unit 3 stands in 2, 2 in 1 and 1 in 0; each has one cell, in which it puts its number."""
        def code(number, *more):
            return (TICK, ("store", 0, 0, 1, I[0], I[number + 70]), *more, END)
        look = [part for hops in range(4) for part in (("load", 0, hops, 0, 1, I[0]), ("put", R[0]))]
        change = [("store", hops, 0, 1, I[0], I[hops + 20]) for hops in range(4)]
        back = (("load", 0, 0, 0, 1, I[0]), ("put", R[0]))
        units = [
            unit(code(0, ("call", 1, 0, (), (), 0), *back), cells=1),
            unit(code(1, ("call", 2, 0, (), (), 0), *back), parent=0, cells=1),
            unit(code(2, ("call", 3, 0, (), (), 0), *back), parent=1, cells=1),
            unit(code(3, *look, *change, *back), parent=2, cells=1),
        ]
        self.look(module(*units), puts(73, 72, 71, 70, 20, 21, 22, 23), NORMAL)

    def test_static_links_of_recursive_units(self):
        """Unit 1 calls itself (1 hop) and then unit 2 (0 hops), which reads the cell of the activation around it."""
        inner = unit((TICK, ("load", 0, 1, 0, 1, I[0]), ("put", R[0]), ("load", 0, 2, 0, 1, I[0]), ("put", R[0]), END), parent=1)
        code = (
            TICK, ("store", 0, 0, 1, I[0], R[0]), ("equal", 1, R[0], I[0]), ("branch", R[1], 6), ("sub", 2, R[0], I[1], 0),
            ("call", 1, 1, (R[2],), (), 0), ("call", 2, 0, (), (), 0), END,
        )
        outer = unit(code, parent=0, arguments=1, cells=1)
        start = unit((TICK, ("store", 0, 0, 1, I[0], I[60]), ("call", 1, 0, (I[3],), (), 0), END), cells=1)
        self.look(module(start, outer, inner), puts(0, 60, 1, 60, 2, 60, 3, 60), NORMAL)

    def test_call_of_a_unit_beside_one_further_out(self):
        """Unit 2 in 1 calls unit 3, which stands in 0: 2 hops from unit 2."""
        third = unit((TICK, ("load", 0, 1, 0, 1, I[0]), ("put", R[0]), END), parent=0)
        second = unit((TICK, ("call", 3, 2, (), (), 0), END), parent=1)
        first = unit((TICK, ("store", 0, 0, 1, I[0], I[8]), ("call", 2, 0, (), (), 0), END), parent=0, cells=1)
        start = unit((TICK, ("store", 0, 0, 1, I[0], I[7]), ("call", 1, 0, (), (), 0), END), cells=1)
        self.look(module(start, first, second, third), puts(7), NORMAL)

    def test_depth(self):
        """Unit 1 calls itself until its argument is 1."""
        code = (
            TICK, ("put", R[0]), ("equal", 1, R[0], I[1]), ("branch", R[1], 6), ("sub", 2, R[0], I[1], 0),
            ("call", 1, 1, (R[2],), (), 2), END,
        )
        for many in range(1, 13):
            start = unit((TICK, ("call", 1, 0, (I[many],), (), 1), ("put", I[50]), END))
            words = list(range(many, max(many - 9, 0), -1))
            if many <= 9:
                self.look(module(start, unit(code, parent=0, arguments=1)), puts(*words, 50), NORMAL)
            else:
                self.look(module(start, unit(code, parent=0, arguments=1)), puts(*words), raised(2, 2))

    def test_depth_after_returns_and_exceptions(self):
        """The depth is that of the activation, however many there were before."""
        leaf = unit((TICK, ("raise", 1, 0)), parent=0)
        start = unit((TICK, ("add", 2, R[2], I[1], 0), ("call", 1, 0, (), (), 0), END, TICK, ("less", 3, R[2], I[30]),
                      ("branch", R[3], 0), ("put", R[2]), END), regions=((2, 3, 4, 0, 1),))
        self.look(module(start, leaf), puts(30), NORMAL)

    def test_storage_error_has_no_activation(self):
        """No fuel is used, nothing is written, and a handler of the calling unit takes it."""
        code = (TICK, ("move", 0, I[6]), ("call", 1, 1, (), (0,), 3), ("return", (R[0],)), ("put", R[0]), ("put", R[1]), ("put", R[2]),
                ("return", (I[1],)))
        other = unit(code, parent=0, results=1, regions=((2, 3, 4, 1, 2),))
        start = unit((TICK, ("call", 1, 0, (), (0,), 1), ("put", R[0]), END))
        self.look(module(start, other), puts(6, 2, 3, 1), NORMAL, fuel=10)
        self.look(module(start, other), (), EXHAUSTED, fuel=9)

    def test_fuel_of_a_call_is_used_behind_its_arguments(self):
        start = unit((TICK, ("put", I[1]), ("call", 1, 0, (), (), 0), END))
        other = unit((TICK, ("put", I[2]), END), parent=0)
        self.look(module(start, other), puts(1), EXHAUSTED, fuel=1)
        self.look(module(start, other), puts(1, 2), NORMAL, fuel=2)

    # Exceptions

    def test_places_and_numbers(self):
        for wrong, number in (
            (("raise", 1, 2), 1), (("raise", 3, 2), 3), (("neg", 0, ("int", MIN), 2), 0), (("check", I[1], 2, 3, 2), 0), (("get", 0, 2), 3),
            (("div", 0, I[1], I[0], 2), 0),
        ):
            self.body(wrong, ending=raised(number, 2))
            handled = (wrong, END, ("put", R[2]), ("put", R[3]))
            self.body(*handled, events=puts(number, 2), regions=((1, 2, 3, 2, 3),))

    def test_own_exceptions(self):
        made = module(unit((TICK, ("raise", 5, 3))), names=(*NAMES, "late", "end_error"), places=((1, 1),) * 3 + ((40, 9),))
        self.look(made, (), ("raised", "end_error", 40, 9))

    def test_again(self):
        for number, place, ending in (
            (0, 0, raised(0, 0)), (3, 3, raised(3, 3)), (1, 2, raised(1, 2)), (4, 0, FAULT), (0, 4, FAULT), (-1, 0, FAULT), (0, -1, FAULT),
            (MAX, MAX, FAULT), (MIN, 0, FAULT),
        ):
            moves = (("move", 0, ("int", number)), ("move", 1, ("int", place)))
            self.body(*moves, ("again", R[0], R[1]), ending=ending)
            self.body(("again", ("int", number), ("int", place)), ending=ending)
            handled = (*moves, ("again", R[0], R[1]), END, ("put", R[2]), ("put", R[3]))
            if ending == FAULT:
                self.body(*handled, ending=FAULT, regions=((3, 4, 5, 2, 3),))
            else:
                self.body(*handled, events=puts(number, place), regions=((3, 4, 5, 2, 3),))

    def test_region_bounds(self):
        """An exception at index 2, and regions from 1 to 4."""
        for start in range(4):
            for stop in range(start + 1, 5):
                code = (("put", I[1]), ("raise", 1, 1), ("put", I[2]), ("put", I[3]))
                if start <= 2 < stop:
                    self.body(*code, events=puts(1, 3), regions=((start, stop, 4, 0, 1),))
                else:
                    self.body(*code, events=puts(1), ending=raised(1, 1), regions=((start, stop, 4, 0, 1),))

    def test_the_first_region_is_taken(self):
        code = (("raise", 1, 1), END, ("put", I[1]), END, ("put", I[2]), END, ("put", I[3]))
        regions = {1: (1, 2, 3, 0, 1), 2: (0, 3, 5, 0, 1), 3: (1, 3, 7, 0, 1)}
        for order in ((1, 2, 3), (2, 1, 3), (3, 2, 1), (3, 1, 2), (2, 3, 1)):
            self.body(*code, events=puts(order[0]), regions=tuple(regions[number] for number in order))

    def test_a_handler_may_stand_in_another_region(self):
        """The entries 3 and 5: the second exception is raised in the handler of the first one."""
        code = (("raise", 1, 1), END, ("put", R[0]), ("raise", 2, 3), ("put", R[0]), ("put", R[1]), ("put", R[2]))
        self.body(*code, events=puts(1, 2, 1, 3), regions=((1, 2, 3, 0, 1), (0, 5, 5, 0, 2)))

    def test_exceptions_leave_activations(self):
        """Unit 3 raises; the region of unit 1 stands around the call of unit 2, which has none there."""
        third = unit((TICK, ("raise", 1, 3)), parent=0)
        second = unit((TICK, ("call", 3, 1, (), (), 0), ("put", I[9]), END), parent=0, regions=((0, 1, 3, 0, 1), (2, 3, 3, 0, 1)))
        first = unit((TICK, ("call", 2, 1, (), (), 0), END, ("put", R[2]), ("put", R[3]), END), parent=0, regions=((1, 2, 3, 2, 3),))
        start = unit((TICK, ("call", 1, 0, (), (), 0), ("put", I[5]), END))
        self.look(module(start, first, second, third), puts(1, 3, 5), NORMAL)
        bare = unit(first.code, parent=0)
        self.look(module(start, bare, second, third), (), raised(1, 3))

    def test_results_are_not_written_by_an_exception(self):
        other = unit((TICK, ("raise", 1, 3)), parent=0, results=2)
        start = (TICK, ("move", 0, I[4]), ("move", 1, I[5]), ("call", 1, 0, (), (0, 1), 0), END, ("put", R[0]), ("put", R[1]))
        self.look(module(unit((*start, END), regions=((3, 4, 5, 2, 3),)), other), puts(4, 5), NORMAL)

    def test_an_exception_in_a_region_that_is_left(self):
        """The region of the calling unit holds the call's index, not the one behind."""
        other = unit((TICK, ("raise", 0, 0)), parent=0)
        start = (TICK, ("call", 1, 0, (), (), 0), ("put", I[1]), END, ("put", I[2]), END)
        for start_index, stop, events, ending in ((1, 2, puts(2), NORMAL), (2, 4, (), raised(0, 0)), (0, 1, (), raised(0, 0))):
            self.look(module(unit(start, regions=((start_index, stop, 4, 0, 1),)), other), events, ending)

    def test_registers_at_an_entry(self):
        """Other registers keep their words; number and place may come into any registers."""
        moves = [("move", at, I[at + 30]) for at in range(4)]
        code = (*moves, ("raise", 3, 2), END, *[("put", R[at]) for at in range(4)])
        for number, place in ((0, 1), (1, 0), (3, 0), (2, 3)):
            words = [30, 31, 32, 33]
            words[number], words[place] = 3, 2
            self.body(*code, events=puts(*words), regions=((5, 6, 7, number, place),))

    # All of it

    def test_made_modules_run_as_in_the_second_way(self):
        for seed in range(1200):
            made = make_module(seed)
            rng = random.Random(seed)
            inputs = [rng.choice(WORDS) for _ in range(rng.randint(0, 5))]
            before = parts(made), list(inputs)
            for fuel in (0, 1, 2, 5, 30):
                self.assertEqual(run_module(made, inputs, fuel=fuel), run_reference(made, inputs, fuel), (seed, fuel))
            self.assertEqual((parts(made), inputs), before)

    def test_more_fuel(self):
        """Fuel only cuts a run off."""
        for seed in range(200):
            made = make_module(seed)
            last = run_module(made, [1, 2, 3], fuel=60)
            for fuel in range(60, -1, -1):
                events, ending = run_module(made, [1, 2, 3], fuel=fuel)
                if ending == EXHAUSTED:
                    self.assertEqual(last[0][:len(events)], events)
                else:
                    self.assertEqual((events, ending), last)

    def test_runs_end(self):
        """Point [55]: with 0 units a run does not pass a tick, and with any number it ends."""
        for seed in range(300):
            made = make_module(seed)
            self.assertEqual(run_module(made, [], fuel=0), ((), EXHAUSTED))
            noted = trace_module(made, [], fuel=20, limit=10000)
            longest = sum(len(part.code) for part in made.units)
            self.assertLessEqual(len(noted), 21 * longest)


if __name__ == "__main__":
    unittest.main()
