"""The machine that runs intermediate code. A layout tells where the registers of a unit stand."""

from windowada.alu import compute
from windowada.code import region_of
from windowada.outcome import (
    CONSTRAINT, DEPTH_LIMIT, END, EXHAUSTED, FAULT, NORMAL, STORAGE, Events, Fuel, NoInput, OutOfFuel,
)
from windowada.words import DivisionByZero, Overflow, absolute, negate


class Layout:
    """Where the registers of a unit stand among the words of its activations.

    where has the index of the word of each register. An activation begins with the words in initial. Then its
    arguments are put at the indexes in entrances, and then the words at the indexes in cleared become 0.
    """

    def __init__(self, where, initial, entrances, cleared):
        self.where = where
        self.initial = initial
        self.entrances = entrances
        self.cleared = cleared


def plain_layout(unit):
    """Returns the layout in which the words of an activation are its registers."""
    numbers = tuple(range(unit.registers))
    return Layout(numbers, [0] * unit.registers, numbers[:unit.arguments], ())


class Activation:
    """A running unit. link is the activation that its static link leads to, and caller that which called it.

    index is that of the instruction that is due. While an instruction is done it is already that of the one
    behind, and so it is in an activation that waits for the end of a call.
    """

    def __init__(self, number, unit, layout, link, caller):
        self.number = number
        self.unit = unit
        self.where = layout.where
        self.words = list(layout.initial)
        self.cells = [0] * unit.cells
        self.link = link
        self.caller = caller
        self.depth = 1 if caller is None else caller.depth + 1
        self.index = 0

    def value(self, operand):
        """Returns the word of an operand."""
        kind, number = operand
        return number if kind == "int" else self.words[self.where[number]]

    def write(self, number, word):
        """Sets a register."""
        self.words[self.where[number]] = word

    def outward(self, hops):
        """Returns the activation that is some static links away."""
        activation = self
        for _ in range(hops):
            activation = activation.link
        return activation


class Machine:
    """A run of a module. current is the running activation; ending is None until the run ends."""

    def __init__(self, module, layouts, inputs, fuel):
        self.module = module
        self.layouts = layouts
        self.events = Events(inputs)
        self.fuel = Fuel(fuel)
        self.current = None
        self.ending = None
        self.activate(0, None, [])

    def activate(self, number, link, arguments):
        """Starts an activation of a unit."""
        layout = self.layouts[number]
        activation = Activation(number, self.module.units[number], layout, link, self.current)
        for at, word in zip(layout.entrances, arguments):
            activation.words[at] = word
        for at in layout.cleared:
            activation.words[at] = 0
        self.current = activation

    def step(self):
        """Does the instruction that is due."""
        activation = self.current
        instruction = activation.unit.code[activation.index]
        activation.index += 1
        action = ACTIONS[instruction[0]]
        action(self, activation, instruction)

    def finish(self):
        """Runs until the end and returns the events and the ending."""
        while self.ending is None:
            self.step()
        return self.events.rows, self.ending

    def raise_exception(self, number, place):
        """Goes on where an exception is taken, or ends the run. place is the number of its place."""
        activation = self.current
        while activation is not None:
            region = region_of(activation.unit, activation.index - 1)
            if region is not None:
                _, _, activation.index, number_register, place_register = region
                activation.write(number_register, number)
                activation.write(place_register, place)
                self.current = activation
                return
            activation = activation.caller
        line, column = self.module.places[place]
        self.ending = ("raised", self.module.names[number], line, column)


def _do_tick(machine, _activation, _instruction):
    """Uses one unit of fuel."""
    try:
        machine.fuel.tick()
    except OutOfFuel:
        machine.ending = EXHAUSTED


def _do_move(_machine, activation, instruction):
    """Does a move."""
    _, target, operand = instruction
    activation.write(target, activation.value(operand))


def _do_sign(machine, activation, instruction):
    """Does a neg or an abs."""
    name, target, operand, place = instruction
    word = activation.value(operand)
    try:
        result = negate(word) if name == "neg" else absolute(word)
    except Overflow:
        machine.raise_exception(CONSTRAINT, place)
        return
    activation.write(target, result)


def _do_arithmetic(machine, activation, instruction):
    """Does an operator with two operands."""
    name, target, left, right, place = instruction
    try:
        result = compute(name, activation.value(left), activation.value(right))
    except (Overflow, DivisionByZero):
        machine.raise_exception(CONSTRAINT, place)
        return
    activation.write(target, result)


def _do_compare(_machine, activation, instruction):
    """Does a less or an equal."""
    name, target, left, right = instruction
    activation.write(target, compute(name, activation.value(left), activation.value(right)))


def _do_check(machine, activation, instruction):
    """Does a check."""
    _, operand, low, high, place = instruction
    if not low <= activation.value(operand) <= high:
        machine.raise_exception(CONSTRAINT, place)


def _do_load(machine, activation, instruction):
    """Does a load."""
    _, target, hops, cell, count, operand = instruction
    offset = activation.value(operand)
    if 0 <= offset < count:
        activation.write(target, activation.outward(hops).cells[cell + offset])
    else:
        machine.ending = FAULT


def _do_store(machine, activation, instruction):
    """Does a store."""
    _, hops, cell, count, operand, source = instruction
    offset = activation.value(operand)
    if 0 <= offset < count:
        activation.outward(hops).cells[cell + offset] = activation.value(source)
    else:
        machine.ending = FAULT


def _do_jump(_machine, activation, instruction):
    """Does a jump."""
    activation.index = instruction[1]


def _do_branch(_machine, activation, instruction):
    """Does a branch."""
    _, operand, target = instruction
    if activation.value(operand) != 0:
        activation.index = target


def _do_call(machine, activation, instruction):
    """Does a call."""
    _, number, hops, arguments, _, place = instruction
    if activation.depth == DEPTH_LIMIT:
        machine.raise_exception(STORAGE, place)
    else:
        words = [activation.value(argument) for argument in arguments]
        machine.activate(number, activation.outward(hops), words)


def _do_return(machine, activation, instruction):
    """Does a return."""
    words = [activation.value(operand) for operand in instruction[1]]
    caller = activation.caller
    machine.current = caller
    if caller is None:
        machine.ending = NORMAL
    else:
        results = caller.unit.code[caller.index - 1][4]
        for target, word in zip(results, words):
            caller.write(target, word)


def _do_raise(machine, _activation, instruction):
    """Does a raise."""
    _, number, place = instruction
    machine.raise_exception(number, place)


def _do_again(machine, activation, instruction):
    """Does an again."""
    number = activation.value(instruction[1])
    place = activation.value(instruction[2])
    if 0 <= number < len(machine.module.names) and 0 <= place < len(machine.module.places):
        machine.raise_exception(number, place)
    else:
        machine.ending = FAULT


def _do_put(machine, activation, instruction):
    """Does a put."""
    machine.events.put(activation.value(instruction[1]))


def _do_get(machine, activation, instruction):
    """Does a get."""
    _, target, place = instruction
    try:
        word = machine.events.get()
    except NoInput:
        machine.raise_exception(END, place)
        return
    activation.write(target, word)


ACTIONS = {
    "tick": _do_tick, "move": _do_move, "neg": _do_sign, "abs": _do_sign, "add": _do_arithmetic,
    "sub": _do_arithmetic, "mul": _do_arithmetic, "div": _do_arithmetic, "mod": _do_arithmetic,
    "rem": _do_arithmetic, "less": _do_compare, "equal": _do_compare, "check": _do_check, "load": _do_load,
    "store": _do_store, "jump": _do_jump, "branch": _do_branch, "call": _do_call, "return": _do_return,
    "raise": _do_raise, "again": _do_again, "put": _do_put, "get": _do_get,
}
