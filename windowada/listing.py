"""The processor's instructions of a unit while they are made, and the places of its registers."""

from windowada.moves import constant, is_short
from windowada.roles import FIRST_IN, FIRST_LOCAL, STACK

# Register 0 is always 0, and register 2 brings its static link to a called unit.
ZERO = 0
LINK = 2

# What is needed within one instruction of the code stands here; nothing else uses these registers.
LEFT = 1
RIGHT = 3
BASE = 4

# The words of a frame ahead of its cells: those for saved registers and the static link. The slots are the last ones.
HEAD = 17


class Listing:
    """The instructions of a unit so far.

    In a jump or branch stands an index of the unit's code instead of a distance, and in a call the number of a
    unit. addresses has for each index of the code the address of its first instruction, raising the pairs of an
    address that can raise and the number of its place, and spans the regions of the unit as addresses. All addresses
    count from the first instruction of the unit.
    """

    def __init__(self, unit, assignment):
        self.unit = unit
        self.instructions = []
        self.addresses = []
        self.raising = []
        self.spans = []
        self._assignment = assignment

    def emit(self, instruction):
        """Adds an instruction."""
        self.instructions.append(instruction)

    def here(self):
        """Returns the address of the next instruction."""
        return len(self.instructions)

    def note_place(self, place):
        """Notes that the next instruction can raise, and the number of its place."""
        self.raising.append((self.here(), place))

    def has_place(self, number):
        """Returns True if a register of the code has a place, otherwise False."""
        return self._assignment[number] is not None

    def size_of_frame(self):
        """Returns the count of words of the unit's frame."""
        slots = [place[1] + 1 for place in self._assignment if place is not None and place[0] == "slot"]
        return HEAD + self.unit.cells + max(slots, default=0)

    def target_of(self, number):
        """Returns the processor's register into which what is for a register of the code is written first."""
        if not self.has_place(number):
            return ZERO
        kind, at = self._assignment[number]
        return LEFT if kind == "slot" else _number_of(kind, at)

    def fetch(self, operand, spare):
        """Returns the processor's register with the value of an operand: the spare one, if it was in none."""
        kind, number = operand
        if kind == "int":
            if number == 0:
                return ZERO
            self.instructions.extend(constant(spare, number))
            return spare
        kind, at = self._assignment[number]
        if kind == "slot":
            self.emit(("load", spare, STACK, self._slot(at)))
            return spare
        return _number_of(kind, at)

    def source(self, operand, spare):
        """Returns the operand of the processor that has the value of an operand of the code."""
        if operand[0] == "int" and is_short(operand[1]):
            return operand
        return ("reg", self.fetch(operand, spare))

    def bring(self, operand, target):
        """Adds the instructions that bring the value of an operand into one of the processor's registers."""
        holder = self.fetch(operand, target)
        if holder != target:
            self.emit(("add", target, holder, ("int", 0)))

    def put_away(self, number, holder):
        """Adds the instructions that bring what one of the processor's registers holds to a register of the code."""
        if not self.has_place(number):
            return
        kind, at = self._assignment[number]
        if kind == "slot":
            self.emit(("store", holder, STACK, self._slot(at)))
        elif holder != _number_of(kind, at):
            self.emit(("add", _number_of(kind, at), holder, ("int", 0)))

    def _slot(self, at):
        """Returns the distance of a slot from the stack pointer, as an operand."""
        return ("int", HEAD + self.unit.cells + at)


def _number_of(kind, at):
    """Returns the number of the processor's register that is a local or an in."""
    return at + (FIRST_LOCAL if kind == "local" else FIRST_IN)
