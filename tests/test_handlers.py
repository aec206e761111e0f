"""Points [85] to [87]: the trap handlers, word by word."""

import random
import unittest

from tests.refcpu import instruction_of
from windowada.banks import Banks
from windowada.encode import encode
from windowada.handlers import trap_code

MIN, MAX = -2147483648, 2147483647


def spill_code(windows):
    """The list of point [86]."""
    return (
        ("bar", 19), ("sub", 20, 19, ("int", 1)), ("mod", 20, 20, ("int", windows)), ("setbar", ("int", -1)), ("save", 0, 0, ("int", 0)),
        *[("store", 16 + k, 14, ("int", k)) for k in range(16)], ("restore",), ("setbar", ("reg", 20)), ("retry",),
    )


def fill_code(windows):
    """The list of point [86]."""
    return (
        ("bar", 19), ("add", 20, 19, ("int", 1)), ("mod", 20, 20, ("int", windows)), ("setbar", ("int", -1)), ("restore",), ("restore",),
        *[("load", 16 + k, 14, ("int", k)) for k in range(16)], ("save", 0, 0, ("int", 0)), ("save", 0, 0, ("int", 0)), ("setbar", ("reg", 20)),
        ("retry",),
    )


def do_words(words, banks, memory):
    """Does the words of a handler. Returns the address at which the run goes on."""
    for word in words:
        name, *parts = instruction_of(word)
        if name == "retry":
            return banks.leave_trap()
        value = None
        if parts:
            kind, number = parts[-1] if isinstance(parts[-1], tuple) else ("int", 0)
            value = number if kind == "int" else banks.read(number)
        if name == "bar":
            banks.write(parts[0], banks.barred)
        elif name == "setbar":
            banks.set_bar(value)
        elif name == "save":
            word = banks.read(parts[1]) + value
            banks.shift_down()
            banks.write(parts[0], word)
        elif name == "restore":
            banks.shift_up()
        elif name == "store":
            memory[banks.read(parts[1]) + value] = banks.read(parts[0])
        elif name == "load":
            banks.write(parts[0], memory[banks.read(parts[1]) + value])
        else:
            left = banks.read(parts[1])
            banks.write(parts[0], {"add": left + value, "sub": left - value, "mod": left % value if name == "mod" else None}[name])
    raise AssertionError("no retry")


class HandlersTest(unittest.TestCase):

    def test_words(self):
        for windows in range(3, 33):
            spill, fill = trap_code(windows)
            self.assertEqual((len(spill), len(fill)), (24, 26))
            self.assertEqual(tuple(instruction_of(word) for word in spill), spill_code(windows))
            self.assertEqual(tuple(instruction_of(word) for word in fill), fill_code(windows))
            self.assertEqual(spill, tuple(encode(one) for one in spill_code(windows)))
            self.assertEqual(fill, tuple(encode(one) for one in fill_code(windows)))

    def test_kinds(self):
        both = trap_code(3)
        self.assertEqual([type(part) for part in (both, *both)], [tuple] * 3)

    def filled(self, windows, rng):
        """Banks that hold windows - 1 windows, each with words of its own and a save area of its own; all others hold words, too."""
        banks = Banks(windows)
        banks.set_bar(-1)
        for _ in range(windows):
            for number in range(16, 32):
                banks.write(number, rng.randint(MIN, MAX))
            banks.shift_down()
        for number in range(1, 8):
            banks.write(number, rng.randint(MIN, MAX))
        return banks

    def words(self, banks, windows):
        """Registers 16 to 31 of all windows by number. Nothing is changed in the end."""
        barred = banks.barred
        banks.set_bar(-1)
        found = {}
        for _ in range(windows):
            found[banks.current] = [banks.read(number) for number in range(16, 32)]
            banks.shift_down()
        for _ in range(windows):
            banks.shift_up()
        banks.set_bar(barred)
        return found

    def globals(self, banks):
        return [banks.read(number) for number in range(8)]

    def test_spill(self):
        rng = random.Random(1)
        for windows in (3, 4, 5, 8, 32):
            for turns in range(windows):
                banks = self.filled(windows, rng)
                for _ in range(turns):
                    banks.shift_down()
                current = banks.current
                blocked, oldest = (current - 1) % windows, (current - 2) % windows
                # The stack pointer of the oldest window is an out of it, an in of the window below it.
                self.set_pointer(banks, windows, oldest, 40)
                banks.set_bar(blocked)
                before, depth, memory = self.words(banks, windows), banks.depth, [7] * 100
                first = self.globals(banks)
                banks.trap_down(1234)
                self.assertEqual(do_words(trap_code(windows)[0], banks, memory), 1234)
                self.assertEqual((banks.current, banks.barred, banks.depth, banks.spills, banks.fills), (current, oldest, depth, 1, 0))
                self.assertEqual(memory, [7] * 40 + before[oldest] + [7] * 44)
                self.assert_same(before, self.words(banks, windows), blocked)
                self.assertEqual(self.globals(banks), first)

    def test_fill(self):
        rng = random.Random(2)
        for windows in (3, 4, 5, 8, 32):
            for turns in range(windows):
                banks = self.filled(windows, rng)
                for _ in range(turns):
                    banks.shift_down()
                current = banks.current
                below, above = (current - 1) % windows, (current + 1) % windows
                self.set_pointer(banks, windows, above, 40)
                banks.set_bar(above)
                memory = [rng.randint(MIN, MAX) for _ in range(100)]
                before, depth, same = self.words(banks, windows), banks.depth, list(memory)
                banks.trap_up(1234)
                self.assertEqual(do_words(trap_code(windows)[1], banks, memory), 1234)
                self.assertEqual((banks.current, banks.barred, banks.depth, banks.spills, banks.fills), (current, (current + 2) % windows, depth, 0, 1))
                self.assertEqual(memory, same)
                before[above] = memory[40:56]
                self.assert_same(before, self.words(banks, windows), below)

    def set_pointer(self, banks, windows, number, word):
        """Sets the stack pointer of a window."""
        while banks.current != number:
            banks.shift_down()
            self.away += 1
        banks.write(14, word)
        for _ in range(self.away):
            banks.shift_up()
        self.away = 0

    away = 0

    def assert_same(self, before, after, own):
        """Only the locals of the window in which the handler runs may have changed."""
        for number, words in before.items():
            start = 8 if number == own else 0
            self.assertEqual(after[number][start:], words[start:], number)


if __name__ == "__main__":
    unittest.main()
