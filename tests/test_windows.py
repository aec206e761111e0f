"""Points [80] to [84]: the window files Tower, Ring and Banks."""

import random
import unittest

from windowada.alu import Fault
from windowada.banks import Banks
from windowada.ring import Ring
from windowada.tower import Tower

METHODS = ("read", "write", "shift_down", "shift_up", "blocked_down", "blocked_up")
MIN, MAX = -2147483648, 2147483647
SIZES = (3, 4, 5, 8, 31, 32)


def view(windows):
    return [windows.read(number) for number in range(32)]


def counts(windows):
    return windows.depth, windows.spills, windows.fills


def fill_view(windows, base):
    """Writes base + number to each register but the globals and the stack pointers."""
    for number in range(8, 32):
        if number not in (14, 30):
            windows.write(number, base + number)


class Naive:
    """Any number of windows, straight from point [80]: a register is named by the depth of a window for which it is an in or a local."""

    def __init__(self):
        self.words = {}
        self.depth = 0

    def key(self, number, depth=None):
        depth = self.depth if depth is None else depth
        if number < 8:
            return number
        return (depth + 1, number + 16) if number < 16 else (depth, number)

    def read(self, number, depth=None):
        return self.words.get(self.key(number, depth), 0)

    def write(self, number, word, depth=None):
        if number != 0:
            self.words[self.key(number, depth)] = word

    def down(self):
        self.depth += 1
        for number in range(8, 24):
            self.write(number, 0)

    def up(self):
        self.depth -= 1


class NaiveRing(Naive):
    """Point [83]. What is spilled is destroyed here, so that it must come back from the memory."""

    def __init__(self, memory, windows):
        super().__init__()
        self.memory = memory
        self.most = windows - 1
        self.held = [0]
        self.spills = self.fills = 0

    def area(self, depth):
        start = self.read(14, depth)
        if start < 0 or start + 16 > len(self.memory):
            raise Fault("outside")
        return start

    def ring_down(self):
        if len(self.held) == self.most:
            oldest = self.held[0]
            start = self.area(oldest)
            for at in range(16):
                self.memory[start + at] = self.read(16 + at, oldest)
                self.write(16 + at, 123456, oldest)
            del self.held[0]
            self.spills += 1
        self.down()
        self.held.append(self.depth)

    def ring_up(self):
        if len(self.held) == 1:
            above = self.depth - 1
            start = self.area(above)
            for at in range(16):
                self.write(16 + at, self.memory[start + at], above)
            self.held.insert(0, above)
            self.fills += 1
        self.up()
        self.held.pop()


class AllFilesTest(unittest.TestCase):
    """What holds for each window file, as long as nothing is blocked."""

    def files(self):
        yield Tower()
        for windows in SIZES:
            yield Ring([0] * 100, windows)
            yield Banks(windows)

    def test_methods_stand_in_each_class(self):
        for kind in (Tower, Ring, Banks):
            for name in METHODS:
                self.assertIn(name, vars(kind))
        for name in ("set_bar", "trap_down", "trap_up", "leave_trap"):
            self.assertIn(name, vars(Banks))

    def test_at_first(self):
        for windows in self.files():
            self.assertEqual(view(windows), [0] * 32)
            self.assertEqual(counts(windows), (0, 0, 0))
            self.assertIs(windows.blocked_down(), False)

    def test_each_register(self):
        for windows in self.files():
            for number in range(1, 32):
                self.assertIsNone(windows.write(number, 1000 + number))
            self.assertEqual(view(windows), [0, *range(1001, 1032)])
            for word in (MIN, MAX, 0):
                windows.write(31, word)
                self.assertEqual(windows.read(31), word)

    def test_register_0(self):
        for windows in self.files():
            before = view(windows)
            for word in (1, -1, MAX):
                self.assertIsNone(windows.write(0, word))
                self.assertEqual(windows.read(0), 0)
            self.assertEqual(view(windows), before)

    def test_a_window_and_back(self):
        for windows in self.files():
            for number in range(1, 8):
                windows.write(number, number)
            fill_view(windows, 100)
            self.assertIsNone(windows.shift_down())
            self.assertEqual(counts(windows), (1, 0, 0))
            outs = [108, 109, 110, 111, 112, 113, 0, 115]
            self.assertEqual(view(windows), [0, *range(1, 8), *[0] * 16, *outs])
            fill_view(windows, 200)
            windows.write(3, 33)
            windows.write(30, 77)
            self.assertIsNone(windows.shift_up())
            self.assertEqual(counts(windows), (0, 0, 0))
            locals_and_ins = [*range(116, 130), 0, 131]
            self.assertEqual(view(windows), [0, 1, 2, 33, 4, 5, 6, 7, *range(224, 230), 77, 231, *locals_and_ins])

    def test_a_window_that_is_made_again_is_empty(self):
        for windows in self.files():
            for word in (5, 6):
                windows.shift_down()
                self.assertEqual([windows.read(number) for number in range(8, 24)], [0] * 16)
                fill_view(windows, word)
                windows.shift_up()

    def test_two_objects_have_nothing_in_common(self):
        for one, other in ((Tower(), Tower()), (Banks(4), Banks(4)), (Ring([0] * 20, 4), Ring([0] * 20, 4))):
            fill_view(one, 5)
            one.write(1, 9)
            one.shift_down()
            self.assertEqual(view(other), [0] * 32)
            self.assertEqual(other.depth, 0)

    def test_any_steps_without_a_block(self):
        """All files against point [80], with no more windows than each can hold."""
        rng = random.Random(4)
        for make, most in ((Tower, 60), *[(lambda n=n: Ring([0] * 9, n), n - 2) for n in SIZES], *[(lambda n=n: Banks(n), n - 2) for n in SIZES]):
            windows, naive = make(), Naive()
            for _ in range(1500):
                turn = rng.random()
                if turn < 0.25 and naive.depth < most:
                    windows.shift_down()
                    naive.down()
                elif turn < 0.5 and naive.depth > 0:
                    windows.shift_up()
                    naive.up()
                else:
                    number, word = rng.randrange(32), rng.randint(MIN, MAX)
                    windows.write(number, word)
                    naive.write(number, word)
                self.assertEqual(view(windows), [naive.read(number) for number in range(32)])
                self.assertEqual(counts(windows), (naive.depth, 0, 0))


class TowerTest(unittest.TestCase):

    def test_any_number_of_windows(self):
        tower = Tower()
        for level in range(500):
            tower.write(16, level)
            tower.write(8, level)
            self.assertIs(tower.blocked_down(), False)
            self.assertIs(tower.blocked_up(), False)
            tower.shift_down()
        self.assertEqual(counts(tower), (500, 0, 0))
        for level in reversed(range(500)):
            self.assertEqual(tower.read(24), level)
            self.assertIs(tower.blocked_up(), False)
            tower.shift_up()
            self.assertEqual((tower.read(16), tower.depth), (level, level))
        self.assertEqual(counts(tower), (0, 0, 0))


class RingTest(unittest.TestCase):

    def started(self, windows, memory=400):
        """A Ring whose windows have a stack pointer each, 20 words below that of the window above."""
        words = [0] * memory
        ring = Ring(words, windows)
        ring.write(14, memory - 16)
        fill_view(ring, 1000)
        return ring, words

    def down(self, ring, base):
        """Makes a window with a stack pointer and words of its own."""
        pointer = ring.read(14) - 20
        ring.shift_down()
        ring.write(14, pointer)
        fill_view(ring, base)

    def test_resident(self):
        for windows in (3, 4, 32):
            ring, _ = self.started(windows, 2000)
            held = 1
            self.assertEqual(ring.resident, 1)
            for level in range(1, 60):
                self.down(ring, 1000 * level)
                held = min(held + 1, windows - 1)
                self.assertEqual((ring.resident, ring.depth, ring.spills, ring.fills), (held, level, level + 1 - held, 0))
            spills = ring.spills
            for level in reversed(range(59)):
                fills = ring.fills + (held == 1)
                ring.shift_up()
                held = max(held - 1, 1)
                self.assertEqual((ring.resident, ring.depth, ring.spills, ring.fills), (held, level, spills, fills))
            self.assertEqual(ring.fills, spills)

    def test_what_a_spill_writes(self):
        """Registers 16 to 31 of the oldest window, in this order, from its stack pointer on, and nothing else."""
        for windows in (3, 4, 32):
            ring, memory = self.started(windows, 2000)
            saved = []
            for level in range(1, windows - 1):
                saved.append([ring.read(number) for number in range(16, 32)])
                self.down(ring, 1000 + 1000 * level)
                self.assertEqual(memory, [0] * 2000)
            saved.append([ring.read(number) for number in range(16, 32)])
            expected = [0] * 2000
            for turn in range(3):
                top = 2000 - 16 - 20 * turn
                expected[top:top + 16] = saved[turn]
                self.down(ring, 100000 + 1000 * turn)
                saved.append([ring.read(number) for number in range(16, 32)])
                self.assertEqual(memory, expected)
                self.assertEqual(ring.spills, turn + 1)

    def test_what_a_fill_reads(self):
        """The words of the save area, which something else may have changed, and no word is written."""
        for windows in (3, 4, 32):
            ring, memory = self.started(windows, 2000)
            for level in range(1, windows):
                self.down(ring, 1000 + 1000 * level)
            self.assertEqual(ring.spills, 1)
            for at in range(16):
                memory[2000 - 16 + at] = 7000 + at
            before = list(memory)
            while ring.depth:
                outs = [ring.read(number) for number in range(24, 32)]
                ring.shift_up()
                self.assertEqual([ring.read(number) for number in range(8, 16)], outs)
            self.assertEqual([ring.read(number) for number in range(16, 32)], list(range(7000, 7016)))
            self.assertEqual((ring.fills, ring.resident), (1, 1))
            self.assertEqual(memory, before)

    def test_the_stack_pointer_of_the_window_above_is_register_30(self):
        ring, memory = self.started(3)
        for level in (1, 2):
            self.down(ring, 1000 + 1000 * level)
        ring.shift_up()
        ring.write(30, 5)
        memory[5:21] = list(range(500, 516))
        ring.shift_up()
        self.assertEqual([ring.read(number) for number in range(16, 32)], list(range(500, 516)))
        self.assertEqual(ring.read(14), 5)

    def test_the_stack_pointer_of_a_spill_is_read_in_the_window_below(self):
        for windows in (3, 4, 32):
            ring, memory = self.started(windows, 2000)
            self.down(ring, 2000)
            ring.write(30, 100)
            words = list(range(1016, 1030)) + [0, 1031]
            for level in range(2, windows):
                self.down(ring, 1000 + 1000 * level)
            self.assertEqual(memory[100:116], words)

    def test_faults_of_spills(self):
        for windows in (3, 4, 32):
            for pointer, is_right in ((-1, False), (0, True), (284, True), (285, False), (300, False), (MIN, False), (MAX, False)):
                ring, memory = self.started(windows, 300)
                ring.write(14, pointer)
                for level in range(1, windows - 1):
                    ring.shift_down()
                    fill_view(ring, 1000 * level)
                before = view(ring), counts(ring), ring.resident, list(memory)
                if is_right:
                    ring.shift_down()
                    self.assertEqual((*counts(ring), ring.resident), (windows - 1, 1, 0, windows - 1))
                else:
                    for _ in range(2):
                        self.assertRaises(Fault, ring.shift_down)
                        self.assertEqual((view(ring), counts(ring), ring.resident, memory), before)
                    # It goes on as if nothing had been.
                    while ring.depth:
                        ring.shift_up()
                    self.assertEqual([ring.read(number) for number in range(16, 22)], list(range(1016, 1022)))

    def test_faults_of_fills(self):
        for pointer, is_right in ((-1, False), (0, True), (284, True), (285, False), (300, False), (MIN, False), (MAX, False)):
            ring, memory = self.started(3, 300)
            for level in (1, 2):
                self.down(ring, 1000 * level)
            ring.shift_up()
            ring.write(30, pointer)
            before = view(ring), counts(ring), ring.resident, list(memory)
            if is_right:
                ring.shift_up()
                self.assertEqual((*counts(ring), ring.resident), (0, 1, 1, 1))
            else:
                for _ in range(2):
                    self.assertRaises(Fault, ring.shift_up)
                    self.assertEqual((view(ring), counts(ring), ring.resident, memory), before)

    def test_memory_that_is_too_small(self):
        for size in (0, 1, 15):
            ring = Ring([0] * size, 3)
            ring.shift_down()
            self.assertRaises(Fault, ring.shift_down)
        ring = Ring([0] * 16, 3)
        for _ in range(5):
            ring.shift_down()
        self.assertEqual(ring.spills, 4)

    def test_never_blocked(self):
        ring, _ = self.started(3, 2000)
        for level in range(1, 30):
            self.assertEqual((ring.blocked_down(), ring.blocked_up()), (False, False))
            self.down(ring, level)
        for _ in range(29):
            ring.shift_up()
            self.assertEqual((ring.blocked_down(), ring.blocked_up()), (False, False))

    def test_any_steps(self):
        rng = random.Random(6)
        for seed in range(60):
            windows = rng.choice((3, 3, 4, 5, 8, 32))
            size = rng.choice((60, 600))
            memory, other = [0] * size, [0] * size
            ring, naive = Ring(memory, windows), NaiveRing(other, windows)
            rise = 0.3 if seed % 2 else 0.45
            for turn in range(400):
                if turn == 200:
                    rise = 0.2
                self.one_step(rng, rise, ring, naive, memory)
                self.assertEqual(view(ring), [naive.read(number) for number in range(32)])
                self.assertEqual(memory, other)
                self.assertEqual((*counts(ring), ring.resident), (naive.depth, naive.spills, naive.fills, len(naive.held)))

    def one_step(self, rng, rise, ring, naive, memory):
        """Does one thing to both; a Fault must come from both or from neither."""
        turn = rng.random()
        if turn < 0.6:
            if turn > rise and naive.depth == 0:
                return
            faults = []
            for action in (ring.shift_down, naive.ring_down) if turn < rise else (ring.shift_up, naive.ring_up):
                try:
                    action()
                    faults.append(False)
                except Fault:
                    faults.append(True)
            self.assertEqual(faults[0], faults[1])
        elif turn < 0.7:
            for file in (ring, naive):
                file.write(14, len(memory) // 2 + naive.depth)
        elif turn < 0.75:
            at, word = rng.randrange(len(memory)), rng.randint(-9, 9)
            memory[at] = naive.memory[at] = word
        else:
            number, word = rng.randrange(32), rng.choice((rng.randint(MIN, MAX), rng.randrange(len(memory))))
            for file in (ring, naive):
                file.write(number, word)


class NaiveBanks:
    """Point [84], with one entry for each register of each window."""

    def __init__(self, windows):
        self.many = windows
        self.words = {}
        self.current, self.barred = 0, 1
        self.depth = self.spills = self.fills = 0

    def key(self, number):
        if number < 8:
            return number
        return ((self.current - 1) % self.many, number + 16) if number < 16 else (self.current, number)

    def read(self, number):
        return self.words.get(self.key(number), 0)

    def write(self, number, word):
        if number:
            self.words[self.key(number)] = word

    def go(self, step):
        self.current = (self.current + step) % self.many
        self.depth -= step

    def down(self):
        self.go(-1)
        if self.barred != -1:
            for number in range(8, 24):
                self.write(number, 0)

    def trap(self, address):
        self.go(-1)
        self.write(17, address)


class BanksTest(unittest.TestCase):

    def test_at_first(self):
        for windows in SIZES:
            banks = Banks(windows)
            self.assertEqual((banks.current, banks.barred), (0, 1))
            self.assertIs(banks.blocked_down(), False)
            self.assertIs(banks.blocked_up(), True)

    def test_numbers_of_windows(self):
        """The window below 0 is the last one."""
        for windows in SIZES:
            banks = Banks(windows)
            found = [0]
            while not banks.blocked_down():
                banks.shift_down()
                found.append(banks.current)
            self.assertEqual(found, [0, *range(windows - 1, 1, -1)])
            self.assertEqual(counts(banks), (windows - 2, 0, 0))
            while not banks.blocked_up():
                banks.shift_up()
            self.assertEqual((banks.current, banks.depth), (0, 0))

    def test_shifts_do_not_look_at_blocks(self):
        banks = Banks(3)
        for current in (2, 1, 0, 2):
            banks.shift_down()
            self.assertEqual(banks.current, current)
        for current in (0, 1, 2, 0):
            banks.shift_up()
            self.assertEqual(banks.current, current)
        self.assertEqual((banks.barred, *counts(banks)), (1, 0, 0, 0))

    def test_blocks(self):
        for windows in SIZES:
            banks = Banks(windows)
            for barred in range(-1, windows):
                self.assertIsNone(banks.set_bar(barred))
                self.assertEqual(banks.barred, barred)
                for _ in range(windows):
                    self.assertIs(banks.blocked_down(), barred == (banks.current - 1) % windows)
                    self.assertIs(banks.blocked_up(), barred == (banks.current + 1) % windows)
                    banks.shift_down()

    def filled(self, windows):
        """Banks in which each register of each window holds a word of its own."""
        banks = Banks(windows)
        banks.set_bar(-1)
        for _ in range(windows):
            for number in range(16, 32):
                banks.write(number, 100 * (banks.current + 1) + number)
            banks.shift_down()
        for _ in range(windows):
            banks.shift_up()
        return banks

    def words(self, banks):
        """All registers of all windows, with no window barred meanwhile."""
        barred, depth = banks.barred, banks.depth
        banks.set_bar(-1)
        found = []
        for _ in range(40):
            found.append((banks.current, view(banks)))
            banks.shift_down()
        for _ in range(40):
            banks.shift_up()
        banks.set_bar(barred)
        self.assertEqual(banks.depth, depth)
        return found

    def test_outs_are_the_ins_of_the_window_below(self):
        for windows in SIZES:
            banks = self.filled(windows)
            self.assertEqual((banks.current, banks.depth), (0, 0))
            for current, row in self.words(banks):
                below = (current - 1) % windows
                self.assertEqual(row[8:], [*[100 * (below + 1) + number for number in range(24, 32)], *[100 * (current + 1) + number for number in range(16, 32)]])

    def test_a_new_window(self):
        """Its locals and outs become 0 if a window is barred, whichever it is; otherwise no register changes."""
        for windows in SIZES:
            for barred in (-1, 0, 1, windows - 1, windows - 2):
                banks = self.filled(windows)
                outs = view(banks)[8:16]
                before = self.words(banks)[1][1]
                banks.set_bar(barred)
                banks.shift_down()
                if barred == -1:
                    self.assertEqual(view(banks), before)
                else:
                    self.assertEqual(view(banks)[8:], [0] * 16 + outs)
                self.assertEqual((banks.current, banks.depth, banks.spills, banks.fills, banks.barred), (windows - 1, 1, 0, 0, barred))

    def test_going_back_changes_no_register(self):
        for windows in SIZES:
            for barred in (-1, 1):
                banks = self.filled(windows)
                expected = dict(self.words(banks))
                banks.set_bar(barred)
                for _ in range(2 * windows):
                    self.assertIsNone(banks.shift_up())
                    self.assertEqual(view(banks), expected[banks.current])

    def test_traps(self):
        for windows in SIZES:
            for begin, spills, fills in (("trap_down", 1, 0), ("trap_up", 0, 1)):
                for barred in (-1, 0, 1, windows - 1):
                    banks = self.filled(windows)
                    banks.set_bar(barred)
                    before = self.words(banks)
                    self.assertIsNone(getattr(banks, begin)(4711))
                    self.assertEqual((banks.current, banks.depth, banks.spills, banks.fills, banks.barred), (windows - 1, 1, spills, fills, barred))
                    expected = before[1][1]
                    expected[17] = 4711
                    self.assertEqual(view(banks), expected)
                    after = self.words(banks)
                    banks.shift_up()
                    self.assertEqual([row for number, row in self.words(banks) if number != windows - 1], [row for number, row in before if number != windows - 1])
                    banks.shift_down()
                    banks.shift_up()
                    banks = self.filled(windows)
                    banks.set_bar(barred)
                    getattr(banks, begin)(4711)
                    self.assertEqual(self.words(banks), after)
                    banks.write(18, 5)
                    self.assertEqual(banks.leave_trap(), 4711)
                    self.assertEqual((banks.current, *counts(banks), banks.barred), (0, 0, spills, fills, barred))

    def test_leave_trap_reads_register_17(self):
        banks = Banks(4)
        banks.trap_down(9)
        banks.write(17, 12)
        self.assertEqual(banks.leave_trap(), 12)
        self.assertEqual(counts(banks), (0, 1, 0))

    def test_counts_add_up(self):
        banks = Banks(5)
        for turn in range(1, 4):
            banks.trap_down(turn)
            banks.leave_trap()
            banks.trap_up(turn)
            banks.trap_up(turn)
            banks.leave_trap()
            banks.leave_trap()
            self.assertEqual(counts(banks), (0, turn, 2 * turn))

    def test_any_steps(self):
        rng = random.Random(9)
        for _ in range(40):
            windows = rng.randint(3, 32)
            banks, naive = Banks(windows), NaiveBanks(windows)
            for _ in range(300):
                turn = rng.randrange(8)
                if turn == 0:
                    banks.shift_down()
                    naive.down()
                elif turn == 1 and naive.depth > 0:
                    banks.shift_up()
                    naive.go(1)
                elif turn == 2:
                    naive.barred = rng.randrange(-1, windows)
                    banks.set_bar(naive.barred)
                elif turn == 3:
                    banks.trap_down(turn)
                    naive.trap(turn)
                    naive.spills += 1
                elif turn == 4:
                    banks.trap_up(turn)
                    naive.trap(turn)
                    naive.fills += 1
                elif turn == 5 and naive.depth > 0:
                    address = naive.read(17)
                    naive.go(1)
                    self.assertEqual(banks.leave_trap(), address)
                else:
                    number, word = rng.randrange(32), rng.randint(MIN, MAX)
                    banks.write(number, word)
                    naive.write(number, word)
                self.assertEqual(view(banks), [naive.read(number) for number in range(32)])
                self.assertEqual((*counts(banks), banks.current, banks.barred), (naive.depth, naive.spills, naive.fills, naive.current, naive.barred))
                self.assertIs(banks.blocked_down(), naive.barred == (naive.current - 1) % windows)
                self.assertIs(banks.blocked_up(), naive.barred == (naive.current + 1) % windows)


if __name__ == "__main__":
    unittest.main()
