"""A run of an image: the instructions of the processor, exceptions and traps."""

from windowada.alu import Fault, compute, high_word, low_word
from windowada.outcome import (
    CONSTRAINT, DEPTH_LIMIT, END, EXHAUSTED, FAULT, NORMAL, STOPPED, STORAGE, Events, Fuel, NoInput, OutOfFuel,
)
from windowada.roles import CALLED, NUMBER, PLACE, SAVED, STACK
from windowada.words import DivisionByZero, Overflow, fits


class Core:
    """A run. ending is None until the run ends.

    address is that of the instruction that is done, and following the one at which the run goes on behind it.
    handlers are the instructions of the spill handler and of the fill handler; no address leads into them. deepest
    is the greatest depth that a save outside of them has reached.
    """

    def __init__(self, image, instructions, handlers, windows, memory):
        self.image = image
        self.windows = windows
        self.memory = memory
        self.events = None
        self.fuel = None
        self.ending = None
        self.address = 0
        self.following = 0
        self.handling = False
        self.deepest = 0
        self._instructions = instructions
        self._handlers = handlers
        self._steps = 0

    def run(self, inputs, fuel, steps):
        """Runs until the end and returns the events and the ending."""
        self.events = Events(inputs)
        self.fuel = Fuel(fuel)
        self._steps = steps
        # The save area of the first window ends with the memory.
        self.windows.write(STACK, len(self.memory) - SAVED)
        while self.ending is None:
            self._step()
        return self.events.rows, self.ending

    def value(self, operand):
        """Returns the word of an operand."""
        kind, number = operand
        return number if kind == "int" else self.windows.read(number)

    def total(self, base, operand):
        """Returns the sum of a register and an operand."""
        return self.windows.read(base) + self.value(operand)

    def shift_down(self):
        """Makes a new window. Returns True if that was possible; otherwise the run ends."""
        try:
            self.windows.shift_down()
        except Fault:
            self.ending = FAULT
        return self.ending is None

    def shift_up(self):
        """Goes back one window. Returns True if that was possible; otherwise the run ends."""
        try:
            self.windows.shift_up()
        except Fault:
            self.ending = FAULT
        return self.ending is None

    def fail(self, number):
        """Raises the exception with a number at the place of the instruction."""
        self.throw(number, self.image.places.get(self.address, -1))

    def throw(self, number, place):
        """Goes on where an exception is taken, or ends the run. place is the number of its place."""
        image = self.image
        if not (0 <= number < len(image.names) and 0 <= place < len(image.positions)):
            self.ending = FAULT
            return
        at = self.address
        entry = image.region_entry(at)
        while entry == -1:
            if self.windows.depth == 0:
                line, column = image.positions[place]
                self.ending = ("raised", image.names[number], line, column)
                return
            if not self._go_back(at):
                return
            at = self.windows.read(CALLED)
            entry = image.region_entry(at)
        self.windows.write(NUMBER, number)
        self.windows.write(PLACE, place)
        self.following = entry

    def _go_back(self, at):
        """Leaves the current window with an exception that stands at an address. Returns False if the run ends."""
        if self.windows.blocked_up():
            self._fill(at)
        return self.ending is None and self.shift_up()

    def _step(self):
        """Does what is due outside of the handlers: an instruction, or a trap ahead of it."""
        if self._steps == 0:
            self.ending = STOPPED
        elif not 0 <= self.address < len(self._instructions):
            self.ending = FAULT
        else:
            instruction = self._instructions[self.address]
            name = instruction[0]
            if name == "save" and self.windows.blocked_down():
                self._spill(self.address)
            elif name == "restore" and self.windows.depth > 0 and self.windows.blocked_up():
                self._fill(self.address)
            else:
                self._steps -= 1
                self.following = self.address + 1
                self._do(instruction)
            self.address = self.following

    def _do(self, instruction):
        """Does an instruction."""
        action = ACTIONS[instruction[0]]
        action(self, instruction)

    def _spill(self, address):
        """Does the spill handler."""
        self.windows.trap_down(address)
        self._handle(self._handlers[0])

    def _fill(self, address):
        """Does the fill handler."""
        self.windows.trap_up(address)
        self._handle(self._handlers[1])

    def _handle(self, instructions):
        """Does the instructions of a trap handler, the last of which is a retry."""
        self.handling = True
        for instruction in instructions:
            self._do(instruction)
            if self.ending is not None:
                return
        self.handling = False


def _do_halt(core, _instruction):
    """Does a halt."""
    core.ending = NORMAL


def _do_operator(core, instruction):
    """Does an operator with two operands."""
    name, target, left, right = instruction
    try:
        word = compute(name, core.windows.read(left), core.value(right))
    except (Overflow, DivisionByZero):
        core.fail(CONSTRAINT)
        return
    core.windows.write(target, word)


def _do_high(core, instruction):
    """Does a high."""
    core.windows.write(instruction[1], high_word(instruction[2]))


def _do_low(core, instruction):
    """Does a low."""
    _, target, source, part = instruction
    core.windows.write(target, low_word(core.windows.read(source), part))


def _do_load(core, instruction):
    """Does a load."""
    _, target, base, offset = instruction
    at = core.total(base, offset)
    if 0 <= at < len(core.memory):
        core.windows.write(target, core.memory[at])
    else:
        core.ending = FAULT


def _do_store(core, instruction):
    """Does a store."""
    _, source, base, offset = instruction
    at = core.total(base, offset)
    if 0 <= at < len(core.memory):
        core.memory[at] = core.windows.read(source)
    else:
        core.ending = FAULT


def _do_jump(core, instruction):
    """Does a jump."""
    core.following = core.address + instruction[1]


def _do_branch(core, instruction):
    """Does a branch."""
    if core.windows.read(instruction[1]) != 0:
        core.following = core.address + instruction[2]


def _do_call(core, instruction):
    """Does a call."""
    if core.windows.depth >= DEPTH_LIMIT:
        core.fail(STORAGE)
    else:
        core.windows.write(CALLED, core.address)
        core.following = instruction[1]


def _do_save(core, instruction):
    """Does a save."""
    _, target, base, offset = instruction
    word = core.total(base, offset)
    if not fits(word):
        core.ending = FAULT
    elif core.shift_down():
        core.windows.write(target, word)
        if not core.handling:
            core.deepest = max(core.deepest, core.windows.depth)


def _do_restore(core, _instruction):
    """Does a restore."""
    if core.windows.depth == 0:
        core.ending = FAULT
    else:
        core.shift_up()


def _do_back(core, _instruction):
    """Does a back."""
    core.following = core.windows.read(CALLED) + 1


def _do_raise(core, instruction):
    """Does a raise."""
    core.fail(instruction[1])


def _do_again(core, instruction):
    """Does an again."""
    _, number, place = instruction
    core.throw(core.windows.read(number), core.value(place))


def _do_tick(core, _instruction):
    """Does a tick."""
    try:
        core.fuel.tick()
    except OutOfFuel:
        core.ending = EXHAUSTED


def _do_put(core, instruction):
    """Does a put."""
    core.events.put(core.value(instruction[1]))


def _do_get(core, instruction):
    """Does a get."""
    try:
        word = core.events.get()
    except NoInput:
        core.fail(END)
        return
    core.windows.write(instruction[1], word)


def _do_below(core, instruction):
    """Does a below."""
    if core.windows.read(instruction[1]) < core.value(instruction[2]):
        core.fail(CONSTRAINT)


def _do_above(core, instruction):
    """Does an above."""
    if core.windows.read(instruction[1]) > core.value(instruction[2]):
        core.fail(CONSTRAINT)


def _do_bar(core, instruction):
    """Does a bar, which only a handler may do."""
    if core.handling:
        core.windows.write(instruction[1], core.windows.barred)
    else:
        core.ending = FAULT


def _do_setbar(core, instruction):
    """Does a setbar, which only a handler may do."""
    if core.handling:
        core.windows.set_bar(core.value(instruction[1]))
    else:
        core.ending = FAULT


def _do_retry(core, _instruction):
    """Does a retry, which only a handler may do."""
    if core.handling:
        core.following = core.windows.leave_trap()
    else:
        core.ending = FAULT


def _do_bad(core, _instruction):
    """Ends the run at a word that is no instruction."""
    core.ending = FAULT


ACTIONS = {
    "halt": _do_halt, "add": _do_operator, "sub": _do_operator, "mul": _do_operator, "div": _do_operator,
    "mod": _do_operator, "rem": _do_operator, "less": _do_operator, "equal": _do_operator, "high": _do_high,
    "low": _do_low, "load": _do_load, "store": _do_store, "jump": _do_jump, "branch": _do_branch, "call": _do_call,
    "save": _do_save, "restore": _do_restore, "back": _do_back, "raise": _do_raise, "again": _do_again,
    "tick": _do_tick, "put": _do_put, "get": _do_get, "below": _do_below, "above": _do_above, "bar": _do_bar,
    "setbar": _do_setbar, "retry": _do_retry, "bad": _do_bad,
}
