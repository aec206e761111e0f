"""Points [88] to [92]: the processor."""

import random
import unittest

from tests.refcpu import Cpu, counted, run_cpu
from tests.wildimages import make_image
from windowada.encode import encode
from windowada.image import Image
from windowada.processor import Processor

NAMES = ("constraint_error", "program_error", "storage_error", "end_error")
POSITIONS = ((1, 1), (2, 5), (7, 3))
MIN, MAX = -2147483648, 2147483647
FAULT, NORMAL, STOPPED, EXHAUSTED = ("fault",), ("normal",), ("stopped",), ("exhausted",)
KINDS = ({}, {"windows": 3}, {"windows": 3, "trapping": False}, {"windows": 8}, {"windows": 8, "trapping": False}, {"windows": 32},
         {"windows": 32, "trapping": False})


def image(code, *, places=None, regions=(), names=NAMES, positions=POSITIONS, memory=64):
    """Returns an image of instructions and words. Each address has the place number 1, if nothing else is given."""
    words = tuple(part if isinstance(part, int) else encode(part) for part in code)
    if places is None:
        places = {at: 1 for at in range(len(words))}
    return Image(words, (2,), places, tuple(regions), names, positions, memory)


def put(number):
    return ("put", ("reg", number))


def puts(*words):
    return tuple(("put", word) for word in words)


def set_to(target, word):
    return ("add", target, 0, ("int", word))


def all_parts(made):
    """What an image consists of, with copies."""
    return made.words, made.starts, dict(made.places), tuple(made.regions), made.names, made.positions, made.memory


SAVE = ("save", 14, 14, ("int", -16))
RAISED = ("raised", "constraint_error", 2, 5)


class ProcessorCase(unittest.TestCase):

    def each(self, made, *, inputs=(), fuel=100, steps=1000, kinds=KINDS):
        """Runs an image on all window files, which must agree with the plain interpreter. Returns the result."""
        expected = run_cpu(made, inputs, fuel, steps)
        before = all_parts(made)
        for kind in kinds:
            given = list(inputs)
            self.assertEqual(Processor(made, **kind).run(given, fuel=fuel, steps=steps), expected, kind)
            self.assertEqual(given, list(inputs))
        self.assertEqual(all_parts(made), before)
        return expected

    def look(self, code, *words, ending=NORMAL, inputs=(), fuel=100, steps=1000, kinds=KINDS, **more):
        """Looks at the words that are put out and at the ending; () instead of words for events of other kinds."""
        result = self.each(image(code, **more), inputs=inputs, fuel=fuel, steps=steps, kinds=kinds)
        self.assertEqual((tuple(part for part in result[0] if part[0] == "put"), result[1]), (puts(*words), ending))
        return result


class InstructionsTest(ProcessorCase):
    """Point [72]."""

    def test_example_of_the_document(self):
        made = image((("put", ("int", 7)), ("halt",)), places={}, memory=32)
        self.assertEqual(self.each(made, steps=2), (puts(7), NORMAL))
        self.assertEqual(self.each(made, steps=1), (puts(7), STOPPED))
        self.assertEqual(self.each(made, steps=0), ((), STOPPED))

    def test_operators(self):
        for name, left, right, result in (
            ("add", 5, 7, 12), ("sub", 5, 7, -2), ("mul", 5, 7, 35), ("div", -7, 2, -3), ("mod", -7, 2, 1), ("rem", -7, 2, -1), ("less", 5, 7, 1),
            ("less", 7, 7, 0), ("equal", 7, 7, 1), ("equal", 5, 7, 0), ("mod", 7, -2, -1), ("rem", 7, -2, 1),
        ):
            for target in (1, 8, 16, 24):
                code = (set_to(2, left), set_to(target, right), (name, target, 2, ("reg", target)), put(target), (name, 2, 2, ("int", right)), put(2), put(target), ("halt",))
                self.look(code, result, result, result)

    def test_what_operators_raise(self):
        for name, left, right in (("add", MAX, 1), ("sub", MIN, 1), ("mul", MAX, 2), ("div", 5, 0), ("mod", 5, 0), ("rem", 5, 0), ("div", MIN, -1), ("mul", MIN, -1)):
            code = (("high", 2, left >> 11), ("low", 2, 2, left % 2048), set_to(3, right), set_to(4, 9), (name, 4, 2, ("reg", 3)), put(1), ("halt",), put(4), put(5), put(6), ("halt",))
            self.look(code, ending=RAISED)
            # It writes nothing.
            self.look(code, 9, 0, 1, regions=((4, 5, 7),))

    def test_high_and_low(self):
        self.look((("high", 1, 1048575), put(1), ("low", 1, 1, 2047), put(1), ("low", 2, 1, 0), put(2), ("high", 3, -1048576), put(3), set_to(4, -1), ("low", 4, 4, 7), put(4), ("halt",)),
                  MAX - 2047, MAX, MAX - 2047, MIN, -2041)

    def test_register_0(self):
        self.look((set_to(0, 5), put(0), ("high", 0, 5), put(0), ("get", 0), put(0), ("load", 0, 0, ("int", 1)), put(0), ("halt",)), 0, 0, 0, 0, inputs=[4])
        self.look((("save", 0, 0, ("int", 7)), put(0), ("halt",)), 0)

    def test_loads_and_stores(self):
        self.look((set_to(1, 9), ("store", 1, 0, ("int", 5)), ("load", 2, 0, ("int", 5)), put(2), set_to(3, 4), ("load", 2, 3, ("int", 1)), put(2),
                   ("load", 3, 3, ("reg", 3)), put(3), ("store", 14, 14, ("int", 15)), ("load", 4, 0, ("int", 63)), put(4), ("halt",)), 9, 9, 0, 48)

    def test_memory_at_the_start(self):
        for memory in (16, 17, 40, 100000):
            code = (put(14), ("load", 1, 14, ("int", 15)), put(1), ("load", 1, 0, ("int", 0)), put(1), ("halt",))
            self.look(code, memory - 16, 0, 0, memory=memory)
        self.look((*[put(number) for number in range(32) if number != 14], ("halt",)), *[0] * 31)

    def test_jumps_and_branches(self):
        self.look((("jump", 3), put(0), ("halt",), ("branch", 0, -2), ("branch", 14, 2), put(0), ("jump", -4)))
        self.look((set_to(1, 3), put(1), ("sub", 1, 1, ("int", 1)), ("branch", 1, -2), ("halt",)), 3, 2, 1)

    def test_call_and_back(self):
        """A call writes its own address to register 15, and back goes on behind it."""
        self.look((("jump", 4), put(15), ("halt",), 0, ("call", 6), put(1), set_to(15, 0), ("back",)), 0)
        self.look((set_to(3, 1), ("call", 4), put(15), ("halt",), put(3), ("back",)), 1, 1)

    def test_save_and_restore(self):
        """The sum is read in the old window and written in the new one."""
        self.look((set_to(16, 5), set_to(9, 7), ("save", 17, 16, ("reg", 9)), put(16), put(17), put(25), set_to(24, 3), ("restore",), put(8), put(16), put(17), ("halt",)),
                  0, 12, 7, 3, 5, 0)
        self.look((set_to(14, 5), ("save", 14, 14, ("int", -3)), put(14), put(30), ("save", 1, 14, ("int", -3)), put(1), put(14), ("halt",)), 2, 5, -1, 0, kinds=({},))

    def test_put_and_get(self):
        result = self.look((("get", 1), put(1), ("put", ("int", -9)), ("get", 17), put(17), ("halt",)), 5, -9, 6, inputs=[5, 6, 7])
        self.assertEqual(result[0], (("get", 5), ("put", 5), ("put", -9), ("get", 6), ("put", 6)))
        result = self.look((set_to(1, 3), ("get", 1), put(1), ("get", 1), ("halt",), put(1), put(5), ("halt",)), 5, 5, 3, inputs=[5], regions=((0, 4, 5),))
        self.assertEqual(result[0][0], ("get", 5))

    def test_below_and_above(self):
        for name, pairs in (("below", ((5, 6), (-1, 0), (MIN, MIN + 1))), ("above", ((6, 5), (0, -1), (MAX, MAX - 1)))):
            for left, right in pairs:
                start = (("high", 1, left >> 11), ("low", 1, 1, left % 2048), ("high", 2, right >> 11), ("low", 2, 2, right % 2048))
                self.look((*start, (name, 1, ("reg", 2)), ("halt",)), ending=RAISED)
                self.look((*start, (name, 2, ("reg", 1)), (name, 1, ("reg", 1)), put(0), ("halt",)), 0)
        self.look((set_to(1, 5), ("below", 1, ("int", 5)), ("above", 1, ("int", 5)), ("below", 1, ("int", 6)), ("halt",)), ending=RAISED)


class EndingsTest(ProcessorCase):
    """Points [89] to [91]."""

    def test_halt_at_any_depth(self):
        self.look((("halt",),))
        self.look((SAVE, ("halt",)))
        self.look((SAVE, SAVE, SAVE, put(14), ("halt",)), 0)

    def test_exhausted(self):
        code = (("tick",), put(0), ("tick",), put(0), ("halt",))
        for fuel, many in ((0, 0), (1, 1), (2, 2), (3, 2)):
            self.look(code, *[0] * many, ending=NORMAL if fuel >= 2 else EXHAUSTED, fuel=fuel)
        # No region takes it.
        self.look((("tick",), ("halt",)), ending=EXHAUSTED, fuel=0, regions=((0, 2, 1),))

    def test_raised(self):
        for number, name in enumerate((*NAMES, "own")):
            for place, position in enumerate(POSITIONS):
                self.look((put(0), ("raise", number)), 0, ending=("raised", name, *position), places={1: place}, names=(*NAMES, "own"))
                self.look((set_to(1, number), ("again", 1, ("int", place))), ending=("raised", name, *position), places={}, names=(*NAMES, "own"))
        self.look((("get", 1),), ending=("raised", "end_error", 2, 5))
        self.look((*[SAVE] * 3, ("raise", 1)), ending=("raised", "program_error", 2, 5))

    def test_depth_of_calls(self):
        """storage_error at the depth 10 or more."""
        for saves in (0, 9, 10, 11, 25):
            code = (*[SAVE] * saves, ("call", saves + 2), ("halt",), put(0), ("halt",))
            if saves < 10:
                self.look(code, 0, memory=1000)
            else:
                self.look(code, ending=("raised", "storage_error", 2, 5), memory=1000)
                self.look((*code[:-1], put(15), put(5), ("halt",)), 0, 0, 2, memory=1000, regions=((saves, saves + 1, saves + 2),))

    def test_faults_of_addresses(self):
        for last in ((), (("jump", 50),), (("jump", -1),), (("jump", 1),), (("call", 1000),), (("call", 67108863),), (set_to(15, -2), ("back",)), (set_to(15, 100), ("back",))):
            code = (*last,)
            self.look(code, ending=FAULT)
        self.look((put(0),), 0, ending=FAULT)
        # The addresses of the handlers are none.
        for at in range(2, 60):
            self.look((("call", at), put(0)), ending=FAULT)
        # The address behind a back to the last word.
        self.look((set_to(15, 1), ("back",)), ending=FAULT)
        self.look((("raise", 0),), ending=FAULT, regions=((0, 1, 7),))

    def test_words_that_are_no_instruction(self):
        for word in (2 ** 32 - 1, 29 << 26, 63 << 26, 1, (10 << 26) + 5, (22 << 26) + 40, (22 << 26) + (1 << 16), (23 << 26) + 1, (20 << 26) + (1 << 21), (28 << 26) + 3):
            self.look((put(0), word, ("halt",)), 0, ending=FAULT)
            self.look((("jump", 2), word, ("halt",)))

    def test_faults_of_memory(self):
        for name in ("load", "store"):
            for memory in (16, 64):
                for address, is_right in ((-1, False), (0, True), (memory - 1, True), (memory, False), (-16384, False), (16383, False)):
                    self.look(((name, 1, 0, ("int", address)), ("halt",)), ending=NORMAL if is_right else FAULT, memory=memory)
            for word in (MIN, MAX):
                code = (("high", 1, word >> 11), ("low", 1, 1, word % 2048), (name, 2, 1, ("reg", 1)), ("halt",))
                self.look(code, ending=FAULT)
                self.look((*code[:2], (name, 2, 1, ("int", 5 if word > 0 else -5)), ("halt",)), ending=FAULT)

    def test_faults_of_saves(self):
        """The sum is no word; then no window is made."""
        for word, number in ((MAX, 1), (MIN, -1)):
            code = (("high", 1, word >> 11), ("low", 1, 1, word % 2048))
            self.look((*code, ("save", 2, 1, ("int", number)), ("halt",)), ending=FAULT)
            self.look((*code, ("save", 2, 1, ("int", 0)), put(2), ("halt",)), word)
            self.look((*code, ("save", 0, 1, ("int", number)), ("halt",)), ending=FAULT)
            for kind in KINDS:
                processor = Processor(image((*code, SAVE, ("save", 2, 1, ("int", number)), ("halt",))), **kind)
                self.assertEqual(processor.run([], fuel=9, steps=9), ((), FAULT))
                self.assertEqual(processor.counts[2], 1)

    def test_a_trap_comes_before_the_sum_of_a_save(self):
        code = (set_to(14, 100), SAVE, set_to(14, 60), ("high", 1, 1048575), ("low", 1, 1, 2047), ("save", 2, 1, ("int", 1)), ("halt",))
        made = image(code, memory=200)
        for more, spills in (({}, 1), ({"trapping": True}, 1), ({"trapping": False}, 0)):
            processor = Processor(made, windows=3, **more)
            self.assertEqual(processor.run([], fuel=9, steps=90), ((), FAULT))
            self.assertEqual(processor.counts, (spills, 0, 1))

    def test_faults_of_restores(self):
        self.look((("restore",), ("halt",)), ending=FAULT)
        self.look((SAVE, ("restore",), put(0), ("restore",), ("halt",)), 0, ending=FAULT)
        for kind in KINDS:
            processor = Processor(image((("restore",),)), **kind)
            self.assertEqual(processor.run([], fuel=9, steps=9), ((), FAULT))
            self.assertEqual(processor.counts, (0, 0, 0))

    def test_what_only_handlers_may_do(self):
        for wrong in (("bar", 1), ("bar", 0), ("setbar", ("int", -1)), ("setbar", ("reg", 1)), ("retry",)):
            self.look((put(0), wrong, ("halt",)), 0, ending=FAULT)
            self.look((SAVE, wrong, ("halt",)), ending=FAULT)

    def test_faults_of_exceptions(self):
        """A number without a name, an address without a place, a place without a position."""
        wrong = ("div", 1, 1, ("int", 0))
        for code in ((wrong,), (("raise", 0),), (("above", 14, ("int", 0)),), (("below", 0, ("int", 1)),)):
            self.look(code, ending=RAISED)
            for regions in ((), ((0, 1, 0),)):
                for more in (
                    {"names": ()}, {"places": {}}, {"places": {1: 1}}, {"places": {0: 3}}, {"places": {0: -1}}, {"places": {0: 10 ** 9}}, {"positions": ()},
                    {"positions": POSITIONS[:1]},
                ):
                    self.look(code, ending=FAULT, regions=regions, **more)
        self.look((("get", 1),), ending=FAULT, names=NAMES[:3])
        self.look((("get", 1),), ending=FAULT, places={})
        self.look((*[SAVE] * 10, ("call", 0)), ending=FAULT, names=NAMES[:2], memory=400)
        self.look((*[SAVE] * 10, ("call", 0)), ending=FAULT, places={9: 1}, memory=400)
        self.look((("raise", 4),), ending=FAULT)
        self.look((("raise", 67108863),), ending=FAULT)
        self.look((("raise", 3),), ending=("raised", "end_error", 2, 5))
        self.look((("raise", 0),), ending=RAISED, names=NAMES[:1])

    def test_numbers_of_again(self):
        for number in (-1, 0, 3, 4, 100, MIN, MAX):
            for place in (-1, 0, 2, 3, 100, MIN, MAX):
                code = (("high", 1, number >> 11), ("low", 1, 1, number % 2048), ("high", 2, place >> 11), ("low", 2, 2, place % 2048), ("again", 1, ("reg", 2)))
                is_right = 0 <= number <= 3 and 0 <= place <= 2
                ending = ("raised", NAMES[number], *POSITIONS[place]) if is_right else FAULT
                self.look(code, ending=ending, places={})
                entry = (*code, ("halt",), put(5), put(6), ("halt",))
                self.look(entry, *((number, place) if is_right else ()), ending=NORMAL if is_right else FAULT, places={}, regions=((4, 5, 6),))

    def test_regions(self):
        """The first that holds the address; the entry may stand anywhere."""
        code = (("jump", 3), put(5), ("halt",), set_to(5, 9), ("raise", 3), put(6), ("halt",))
        self.look(code, 3, regions=((4, 5, 1), (4, 5, 5)))
        self.look(code, 1, regions=((3, 4, 1), (4, 5, 5), (0, 7, 1)))
        self.look(code, 3, regions=((5, 4, 5), (4, 4, 5), (0, 99, 1)))
        self.look(code, ending=("raised", "end_error", 2, 5), regions=((0, 4, 1), (5, 7, 1)))
        # In one another: the exception of a handler goes to the region around it.
        code = (("raise", 1), ("halt",), put(5), ("raise", 2), ("halt",), put(5), ("halt",))
        self.look(code, 1, 2, regions=((0, 1, 2), (0, 7, 5)))
        self.look((("raise", 1), ("raise", 2), put(5), ("halt",)), 1, regions=((0, 1, 2), (1, 2, 0)))

    def test_exceptions_go_back(self):
        """To the region that holds the address of a call; registers are those of that window."""
        code = (set_to(16, 5), ("call", 5), put(16), put(5), ("halt",), SAVE, set_to(16, 6), ("call", 9), ("halt",), SAVE, set_to(24, 8), set_to(16, 7), ("raise", 3), put(8), put(16),
                put(5), put(6), ("halt",))
        self.look(code, 0, 7, 3, 1, regions=((12, 13, 13),), memory=100)
        self.look(code, 8, 6, 3, 1, regions=((7, 8, 13),), memory=100)
        self.look(code, 0, 5, 3, 1, regions=((1, 2, 13),), memory=100)
        self.look(code, 0, 5, 3, 1, regions=((0, 2, 13), (13, 99, 0)), memory=100)
        self.look(code, ending=("raised", "end_error", 2, 5), regions=((2, 7, 13), (8, 12, 13)), memory=100)

    def test_exceptions_go_back_over_many_windows(self):
        for saves in (1, 2, 3, 5, 9, 12, 40):
            start = (set_to(16, 77), set_to(15, 3), ("jump", 3), ("halt",), put(16), *[SAVE] * saves)
            code = (*start, ("raise", 3), put(16), put(5), put(6), put(14), ("halt",))
            memory = 16 * saves + 100
            at = len(start)
            result = self.each(image(code, regions=((3, 4, at + 1),), memory=memory))
            self.assertEqual(result[1], NORMAL)
            self.assertEqual(result[0][-4:], puts(77, 3, 1, memory - 16))

    def test_a_region_of_negative_addresses(self):
        """Register 15 may hold any word when an exception goes back."""
        for word in (-5, 1000):
            code = (set_to(15, word), SAVE, ("raise", 1), put(5), ("halt",))
            self.look(code, ending=("raised", "program_error", 2, 5))
            self.look(code, *((1,) if word == 1000 else ()), ending=NORMAL if word == 1000 else ("raised", "program_error", 2, 5), regions=((1000, 1001, 3),))


class StepsTest(ProcessorCase):
    """Point [89]."""

    def test_each_count_of_steps(self):
        code = (put(0), ("tick",), SAVE, put(14), ("raise", 1), put(5), ("restore",), ("halt",))
        for steps in range(12):
            result = self.each(image(code, regions=((4, 5, 5),)), steps=steps)
            self.assertEqual(result[1], NORMAL if steps >= 8 else STOPPED)
            self.assertEqual(len(result[0]), (0, 1, 1, 1, 2, 2)[steps] if steps < 6 else 3)

    def test_stopped_comes_before_faults(self):
        for code in ((put(0),), (put(0), 2 ** 32 - 1), (put(0), ("retry",)), (put(0), ("restore",)), (put(0), ("load", 1, 0, ("int", -1))), (put(0), ("raise", 9))):
            self.look(code, 0, ending=STOPPED, steps=1)
            self.look(code, 0, ending=FAULT, steps=2)
        self.look((("call", 99),), ending=STOPPED, steps=1)
        self.look((), ending=STOPPED, steps=0)
        self.look((), ending=FAULT, steps=1)

    def test_a_trap_needs_a_step_that_is_left(self):
        """It uses none."""
        code = (*[SAVE] * 6, *[("restore",)] * 6, put(14), ("halt",))
        made = image(code, memory=200)
        for windows in (3, 4, 5):
            for steps in range(16):
                for trapping in (True, False):
                    processor = Processor(made, windows=windows, trapping=trapping)
                    expected = (puts(184) if steps >= 13 else (), NORMAL if steps >= 14 else STOPPED)
                    self.assertEqual(processor.run([], fuel=5, steps=steps), expected)
                    spills = max(0, min(steps, 6) - (windows - 2))
                    fills = max(0, min(steps - 6, 6) - (windows - 2)) if steps > 6 else 0
                    self.assertEqual(processor.counts, (spills, fills, min(steps, 6)))

    def test_a_fault_with_the_last_step(self):
        self.look((("load", 1, 0, ("int", -1)),), ending=FAULT, steps=1)
        self.look((("restore",),), ending=FAULT, steps=1)
        self.look((("raise", 9),), ending=FAULT, steps=1)
        self.look((2 ** 32 - 1,), ending=FAULT, steps=1)
        # An exception that goes back when no step is left: a fill outside of the memory.
        code = (set_to(14, 40), SAVE, set_to(14, 20), SAVE, set_to(14, 4), ("restore",), set_to(30, -1), ("raise", 1))
        made = image(code)
        for trapping in (True, False):
            processor = Processor(made, windows=3, trapping=trapping)
            self.assertEqual(processor.run([], fuel=5, steps=len(code)), ((), FAULT))
            self.assertEqual(processor.run([], fuel=5, steps=len(code) - 1), ((), STOPPED))
        self.assertEqual(Processor(made).run([], fuel=5, steps=len(code)), ((), ("raised", "program_error", 2, 5)))

    def test_an_exception_that_goes_back_uses_no_step(self):
        for saves in (1, 5, 9):
            code = (*[SAVE] * saves, ("raise", 1), put(5), ("halt",))
            made = image(code, regions=((0, 1, saves + 1),), memory=300)
            for steps, ending in ((saves, STOPPED), (saves + 1, STOPPED), (saves + 2, STOPPED), (saves + 3, NORMAL)):
                self.assertEqual(self.each(made, steps=steps), (puts(1) if steps >= saves + 2 else (), ending))
            made = image(code, memory=300)
            self.assertEqual(self.each(made, steps=saves + 1), ((), ("raised", "program_error", 2, 5)))

    def test_no_fuel_and_no_step(self):
        self.look((("tick",),), ending=STOPPED, steps=0, fuel=0)
        self.look((("tick",),), ending=EXHAUSTED, steps=1, fuel=0)
        self.look((("tick",),), ending=STOPPED, steps=1, fuel=1)

    def test_many_steps(self):
        self.look((("jump", 0),), ending=STOPPED, steps=5000)
        self.look((("tick",), ("jump", -1)), ending=EXHAUSTED, steps=10 ** 20, fuel=2000)


class FilesTest(ProcessorCase):
    """Points [85], [88] and [92]."""

    def deep(self, saves, size=16):
        """An image that makes windows, each with words of its own, and goes back; it puts out what it finds."""
        save = ("save", 14, 14, ("int", -size))
        code = [set_to(16, 500), set_to(23, 501)]
        for level in range(saves):
            code += [set_to(8, 1000 + level), set_to(13, 2000 + level), save, put(24), put(29), put(16), put(8), set_to(16, 3000 + level), set_to(23, 4000 + level), set_to(24, 5000 + level)]
        for _ in range(saves):
            code += [put(16), put(23), put(24), put(30), ("restore",), put(8), put(14)]
        return image((*code, put(16), put(23), ("halt",)), memory=size * saves + 16)

    def test_many_windows(self):
        for saves in (0, 1, 2, 5, 31, 40):
            made = self.deep(saves, 16 + saves % 3)
            expected = run_cpu(made, [], 5, 10000)
            self.assertEqual(expected[1], NORMAL)
            for windows in range(3, 33):
                for trapping in (True, False):
                    processor = Processor(made, windows=windows, trapping=trapping)
                    self.assertEqual(processor.run([], fuel=5, steps=10000), expected)
                    many = max(0, saves - (windows - 2))
                    self.assertEqual(processor.counts, (many, many, saves))

    def test_spills_and_fills_that_fault(self):
        """Save areas that do not lie in the memory, below it and above it."""
        for pointer in (-1, -16, 49, 64, 1000, -16384):
            code = (set_to(14, pointer), ("save", 1, 0, ("int", 0)), set_to(14, 20), put(0), ("save", 1, 0, ("int", 0)), put(0), ("halt",))
            made = image(code)
            self.assertEqual(Processor(made).run([], fuel=5, steps=99), (puts(0, 0), NORMAL))
            for trapping in (True, False):
                self.assertEqual(Processor(made, windows=3, trapping=trapping).run([], fuel=5, steps=99), (puts(0), FAULT))
                self.assertEqual(Processor(made, windows=4, trapping=trapping).run([], fuel=5, steps=99), (puts(0, 0), NORMAL))
            code = (set_to(14, 40), SAVE, SAVE, ("restore",), set_to(30, pointer), put(0), ("restore",), put(0), ("halt",))
            made = image(code)
            self.assertEqual(Processor(made).run([], fuel=5, steps=99), (puts(0, 0), NORMAL))
            for trapping in (True, False):
                self.assertEqual(Processor(made, windows=3, trapping=trapping).run([], fuel=5, steps=99), (puts(0), FAULT))

    def test_the_memory_holds_what_was_spilled(self):
        """A program can read and change the words of a save area."""
        code = (set_to(14, 40), *[set_to(number, 700 + number) for number in range(16, 32)], SAVE, set_to(14, 20), SAVE, ("load", 1, 0, ("int", 40)), put(1), ("load", 1, 0, ("int", 55)), put(1),
                set_to(1, 9), ("store", 1, 0, ("int", 41)), ("restore",), ("restore",), put(16), put(17), put(31), ("halt",))
        made = image(code)
        for trapping in (True, False):
            self.assertEqual(Processor(made, windows=3, trapping=trapping).run([], fuel=5, steps=99), (puts(716, 731, 716, 9, 731), NORMAL))
            self.assertEqual(Processor(made, windows=4, trapping=trapping).run([], fuel=5, steps=99), (puts(0, 0, 716, 717, 731), NORMAL))

    def test_counts_before_the_first_run(self):
        for kind in KINDS:
            processor = Processor(image((("halt",),)), **kind)
            self.assertEqual(processor.counts, (0, 0, 0))
            self.assertIs(type(processor.counts), tuple)

    def test_counts_are_those_of_the_last_run(self):
        code = (("get", 1), ("branch", 1, 2), ("halt",), *[SAVE] * 5, ("halt",))
        for trapping in (True, False):
            processor = Processor(image(code, memory=200), windows=3, trapping=trapping)
            for word, counts in ((1, (4, 0, 5)), (0, (0, 0, 0)), (1, (4, 0, 5)), (1, (4, 0, 5))):
                self.assertEqual(processor.run([word], fuel=5, steps=99), ((("get", word),), NORMAL))
                self.assertEqual(processor.counts, counts)
                self.assertEqual(processor.counts, counts)
        processor = Processor(image(code, memory=200))
        processor.run([1], fuel=5, steps=99)
        self.assertEqual(processor.counts, (0, 0, 5))

    def test_deepest_without_the_handlers(self):
        """A handler makes windows, too, but they do not count."""
        code = (*[SAVE] * 3, *[("restore",)] * 3, ("halt",))
        for windows, spills in ((3, 2), (4, 1), (5, 0)):
            processor = Processor(image(code, memory=100), windows=windows)
            self.assertEqual(processor.run([], fuel=5, steps=99), ((), NORMAL))
            self.assertEqual(processor.counts, (spills, spills, 3))

    def test_counts_of_runs_that_do_not_come_to_an_end(self):
        for trapping in (True, False):
            processor = Processor(image((SAVE, ("tick",), ("jump", -2)), memory=1000), windows=4, trapping=trapping)
            for fuel in range(12):
                self.assertEqual(processor.run([], fuel=fuel, steps=999), ((), EXHAUSTED))
                self.assertEqual(processor.counts, (max(0, fuel + 1 - 2), 0, fuel + 1))

    def test_a_new_start_for_each_run(self):
        """Memory, registers and windows are new, whatever a run left behind."""
        code = (("load", 1, 0, ("int", 3)), put(1), put(2), put(16), put(14), set_to(2, 5), set_to(16, 6), ("store", 14, 0, ("int", 3)), set_to(14, 30), SAVE, put(16), SAVE, SAVE, ("get", 4), ("raise", 1))
        made = image(code)
        for kind in KINDS:
            processor = Processor(made, **kind)
            for inputs, fuel, steps in (([], 5, 99), ([7], 5, 99), ([], 5, 7), ([7], 0, 99), ([], 5, 99)):
                self.assertEqual(processor.run(inputs, fuel=fuel, steps=steps), Processor(made, **kind).run(inputs, fuel=fuel, steps=steps))

    def test_two_processors_with_one_image(self):
        made = self.deep(6)
        one, other = Processor(made, windows=3), Processor(made, windows=5, trapping=False)
        first = one.run([], fuel=5, steps=30)
        second = other.run([], fuel=5, steps=999)
        self.assertEqual(one.counts[1], 0)
        self.assertEqual(one.run([], fuel=5, steps=999), second)
        self.assertEqual(one.run([], fuel=5, steps=30), first)

    def test_smallest_memory(self):
        """16 words: a window at the start and a save area."""
        self.look((put(14), ("save", 14, 14, ("int", 0)), put(14), ("restore",), put(14), ("halt",)), 0, 0, 0, memory=16)
        code = (SAVE, SAVE, SAVE, ("halt",))
        self.assertEqual(Processor(image(code, memory=16)).run([], fuel=5, steps=99), ((), NORMAL))
        for trapping in (True, False):
            processor = Processor(image(code, memory=16), windows=3, trapping=trapping)
            self.assertEqual(processor.run([], fuel=5, steps=99), ((), FAULT))
            self.assertEqual(processor.counts, (2 if trapping else 1, 0, 2))

    def test_without_windows_there_is_a_tower(self):
        made = self.deep(40)
        for trapping in (True, False):
            processor = Processor(made, windows=None, trapping=trapping)
            self.assertEqual(processor.run([], fuel=5, steps=9999), run_cpu(made, [], 5, 9999))
            self.assertEqual(processor.counts, (0, 0, 40))


class MadeImagesTest(ProcessorCase):

    def test_a_tower_with_wild_images(self):
        """Any words and any tables, against the plain interpreter."""
        endings = {}
        for seed in range(3000):
            made = make_image(seed, wild=True)
            rng = random.Random(seed)
            processor = Processor(made)
            before = all_parts(made)
            for _ in range(3):
                inputs = [rng.choice((0, 1, -1, 5, MAX, 14)) for _ in range(rng.randint(0, 4))]
                fuel, steps = rng.choice((0, 1, 5, 20)), rng.choice((0, 1, 2, 5, 20, 200))
                cpu = Cpu(made)
                expected = cpu.run(inputs, fuel, steps)
                self.assertEqual(processor.run(inputs, fuel=fuel, steps=steps), expected, seed)
                self.assertEqual(processor.counts, (0, 0, counted(cpu.shifts, 3)[2]))
                endings[expected[1][0]] = endings.get(expected[1][0], 0) + 1
            self.assertEqual(all_parts(made), before)
        self.assertEqual(set(endings), {"normal", "raised", "exhausted", "fault", "stopped"})
        self.assertGreater(min(endings.values()), 100)

    def test_the_three_files_give_the_same_results(self):
        """Point [92], for runs that keep to its conditions."""
        many = shifted = 0
        for seed in range(1200):
            made = make_image(seed, wild=seed % 3 == 0)
            rng = random.Random(seed)
            sizes = rng.sample(range(3, 13), 2)
            for _ in range(3):
                inputs = [rng.choice((0, 1, -1, 5, MAX)) for _ in range(rng.randint(0, 4))]
                fuel, steps = rng.choice((0, 1, 5, 20)), rng.choice((3, 20, 200, 600))
                cpu = Cpu(made)
                expected = cpu.run(inputs, fuel, steps)
                if not cpu.is_plain:
                    continue
                many += 1
                for windows in sizes:
                    for trapping in (True, False):
                        processor = Processor(made, windows=windows, trapping=trapping)
                        self.assertEqual(processor.run(inputs, fuel=fuel, steps=steps), expected, (seed, windows, trapping))
                        if expected[1] != FAULT:
                            self.assertEqual(processor.counts, counted(cpu.shifts, windows), (seed, windows, trapping))
                            shifted += processor.counts[0] > 0 and processor.counts[1] > 0
        self.assertGreater(many, 1500)
        self.assertGreater(shifted, 300)


if __name__ == "__main__":
    unittest.main()
