"""A second way to run intermediate code, straight from the points on it, to compare the package with.

Calls are calls of Python here, and exceptions are those of Python. With assignments the registers stand in places.
"""

MIN, MAX = -2147483648, 2147483647


class Trouble(Exception):
    """An exception of the code: its number and the number of its place."""


class Stop(Exception):
    """The run ends."""


class Plain:
    """The registers of an activation."""

    def __init__(self, unit, arguments):
        self.words = [*arguments, *[0] * (unit.registers - len(arguments))]

    def read(self, number):
        return self.words[number]

    def write(self, number, word):
        self.words[number] = word


class Placed:
    """The places of an activation; live has the registers that are live at index 0."""

    def __init__(self, unit, arguments, assignment, live):
        self.assignment = assignment
        places = [("local", number) for number in range(8)] + [("in", number) for number in range(6)]
        self.words = {place: 77 for place in [*places, *[place for place in assignment if place is not None]]}
        for number, word in enumerate(arguments):
            self.words["in", number] = word
        for number in live:
            if number >= unit.arguments:
                self.words[assignment[number]] = 0

    def read(self, number):
        return self.words[self.assignment[number]]

    def write(self, number, word):
        if self.assignment[number] is not None:
            self.words[self.assignment[number]] = word


class Frame:
    """An activation."""

    def __init__(self, number, unit, registers, link, depth):
        self.number = number
        self.unit = unit
        self.registers = registers
        self.cells = [0] * unit.cells
        self.link = link
        self.depth = depth

    def value(self, operand):
        return operand[1] if operand[0] == "int" else self.registers.read(operand[1])

    def up(self, hops):
        return self if hops == 0 else self.link.up(hops - 1)


def run_reference(module, inputs, fuel, assignments=None, live=None):
    """Returns the events and the ending."""
    return Reference(module, inputs, fuel, assignments, live).run()


class Reference:
    """One run. calls has depth, caller and called unit of each call, and notes what a trace notes."""

    def __init__(self, module, inputs, fuel, assignments=None, live=None):
        self.module = module
        self.inputs = list(inputs)
        self.fuel = fuel
        self.assignments = assignments
        self.live = live
        self.events = []
        self.calls = []
        self.notes = []

    def run(self):
        try:
            self.activate(0, [], None, 1)
            ending = ("normal",)
        except Stop as stop:
            ending = stop.args
        except Trouble as trouble:
            number, place = trouble.args
            ending = ("raised", self.module.names[number], *self.module.places[place])
        return tuple(self.events), ending

    def activate(self, number, arguments, link, depth):
        """Returns the values that a unit returns."""
        unit = self.module.units[number]
        if self.assignments is None:
            registers = Plain(unit, arguments)
        else:
            registers = Placed(unit, arguments, self.assignments[number], self.live[number])
        frame = Frame(number, unit, registers, link, depth)
        index = 0
        while True:
            instruction = unit.code[index]
            if self.assignments is None:
                self.notes.append((number, index, tuple(registers.words)))
            if instruction[0] == "return":
                return [frame.value(operand) for operand in instruction[1]]
            try:
                target = getattr(self, "do_" + instruction[0])(frame, *instruction[1:])
                index = index + 1 if target is None else target
            except Trouble as trouble:
                index = self.handle(frame, index, trouble)

    def handle(self, frame, index, trouble):
        for start, stop, entry, number, place in frame.unit.regions:
            if start <= index < stop:
                frame.registers.write(number, trouble.args[0])
                frame.registers.write(place, trouble.args[1])
                return entry
        raise trouble

    def put_word(self, frame, number, word, place):
        if not MIN <= word <= MAX:
            raise Trouble(0, place)
        frame.registers.write(number, word)

    def do_tick(self, frame):
        if self.fuel == 0:
            raise Stop("exhausted")
        self.fuel -= 1

    def do_move(self, frame, number, operand):
        frame.registers.write(number, frame.value(operand))

    def do_neg(self, frame, number, operand, place):
        self.put_word(frame, number, -frame.value(operand), place)

    def do_abs(self, frame, number, operand, place):
        self.put_word(frame, number, abs(frame.value(operand)), place)

    def do_add(self, frame, number, left, right, place):
        self.put_word(frame, number, frame.value(left) + frame.value(right), place)

    def do_sub(self, frame, number, left, right, place):
        self.put_word(frame, number, frame.value(left) - frame.value(right), place)

    def do_mul(self, frame, number, left, right, place):
        self.put_word(frame, number, frame.value(left) * frame.value(right), place)

    def divide(self, frame, left, right, place):
        """Returns the quotient rounded toward zero, the remainder and the divisor."""
        a, b = frame.value(left), frame.value(right)
        if b == 0:
            raise Trouble(0, place)
        quotient = abs(a) // abs(b) * (1 if (a < 0) == (b < 0) else -1)
        return quotient, a - b * quotient, b

    def do_div(self, frame, number, left, right, place):
        self.put_word(frame, number, self.divide(frame, left, right, place)[0], place)

    def do_rem(self, frame, number, left, right, place):
        self.put_word(frame, number, self.divide(frame, left, right, place)[1], place)

    def do_mod(self, frame, number, left, right, place):
        _, remainder, divisor = self.divide(frame, left, right, place)
        other_sign = remainder != 0 and (remainder < 0) != (divisor < 0)
        self.put_word(frame, number, remainder + divisor if other_sign else remainder, place)

    def do_less(self, frame, number, left, right):
        frame.registers.write(number, 1 if frame.value(left) < frame.value(right) else 0)

    def do_equal(self, frame, number, left, right):
        frame.registers.write(number, 1 if frame.value(left) == frame.value(right) else 0)

    def do_check(self, frame, operand, low, high, place):
        if frame.value(operand) < low or frame.value(operand) > high:
            raise Trouble(0, place)

    def offset(self, frame, operand, count):
        if frame.value(operand) not in range(count):
            raise Stop("fault")
        return frame.value(operand)

    def do_load(self, frame, number, hops, cell, count, operand):
        offset = self.offset(frame, operand, count)
        frame.registers.write(number, frame.up(hops).cells[cell + offset])

    def do_store(self, frame, hops, cell, count, operand, source):
        offset = self.offset(frame, operand, count)
        frame.up(hops).cells[cell + offset] = frame.value(source)

    def do_jump(self, frame, target):
        return target

    def do_branch(self, frame, operand, target):
        return target if frame.value(operand) else None

    def do_call(self, frame, number, hops, arguments, results, place):
        self.calls.append((frame.depth, frame.number, number))
        words = [frame.value(argument) for argument in arguments]
        if frame.depth == 10:
            raise Trouble(2, place)
        for target, word in zip(results, self.activate(number, words, frame.up(hops), frame.depth + 1)):
            frame.registers.write(target, word)

    def do_raise(self, frame, number, place):
        raise Trouble(number, place)

    def do_again(self, frame, number, place):
        if frame.value(number) not in range(len(self.module.names)):
            raise Stop("fault")
        if frame.value(place) not in range(len(self.module.places)):
            raise Stop("fault")
        raise Trouble(frame.value(number), frame.value(place))

    def do_put(self, frame, operand):
        self.events.append(("put", frame.value(operand)))

    def do_get(self, frame, number, place):
        if not self.inputs:
            raise Trouble(3, place)
        word = self.inputs.pop(0)
        self.events.append(("get", word))
        frame.registers.write(number, word)
