"""The code of a subprogram while it is made."""

from windowada.code import Unit


class Places:
    """The places of a module and their numbers."""

    def __init__(self):
        self._numbers = {}

    def number_of(self, place):
        """Returns the number of a place."""
        return self._numbers.setdefault(place, len(self._numbers))

    def table(self):
        """Returns the places by number."""
        return tuple(self._numbers)


class Homes:
    """Where the variables of a subprogram stand.

    Each variable that is no array has a register; the parameters have the first ones. Arrays, and variables that
    other subprograms use, stand in cells. Such a variable has a register as well: a parameter comes in it, and a
    loop counts in it. registers and cells have by the variable's number its register and its first cell.
    """

    def __init__(self, subprogram):
        self.registers = []
        self.cells = []
        self.many_registers = 0
        self.many_cells = 0
        for number, mark in enumerate(subprogram.marks):
            self.registers.append(None if mark.is_array() else self.many_registers)
            if not mark.is_array():
                self.many_registers += 1
            in_cells = mark.is_array() or number in subprogram.shared
            self.cells.append(self.many_cells if in_cells else None)
            if in_cells:
                self.many_cells += mark.size()


class Draft:
    """The code of a subprogram so far, and what is known at its end.

    homes has the homes of the variables of all subprograms by number, and own those of this one. The target of a
    jump or branch is the number of a label until the unit is made. Registers behind those of the variables hold
    what is needed for a while. They are a stack: used is the number of the registers that hold something. leaves
    has the labels behind the loops around this point, and caught the pairs of registers, as operands, with what
    the handlers around it took. end is the label of the end of the subprogram.
    """

    def __init__(self, program, subprogram, homes, places):
        self.program = program
        self.subprogram = subprogram
        self.homes = homes
        self.own = homes[subprogram.number]
        self.used = self.own.many_registers
        self.leaves = []
        self.caught = []
        self._places = places
        self._most = self.used
        self._code = []
        self._labels = []
        self._regions = []
        self.end = self.new_label()

    def emit(self, instruction):
        """Adds an instruction."""
        self._code.append(instruction)

    def here(self):
        """Returns the index of the next instruction."""
        return len(self._code)

    def new_label(self):
        """Returns a label that has no index so far."""
        self._labels.append(None)
        return len(self._labels) - 1

    def set_label(self, label):
        """Gives a label the index of the next instruction."""
        self._labels[label] = len(self._code)

    def place_number(self, place):
        """Returns the number of a place."""
        return self._places.number_of(place)

    def take(self):
        """Returns a register that holds nothing."""
        self.used += 1
        self._most = max(self._most, self.used)
        return self.used - 1

    def release(self, used):
        """Lets the registers from a number on hold nothing again."""
        self.used = used

    def add_region(self, start, stop, number, place):
        """Adds a region whose entry is the next instruction."""
        self._regions.append((start, stop, len(self._code), number, place))

    def outward(self, hops):
        """Returns the subprogram that is some static links away."""
        subprogram = self.subprogram
        for _ in range(hops):
            subprogram = self.program.subprograms[subprogram.parent]
        return subprogram

    def make_unit(self, results):
        """Returns the unit."""
        subprogram = self.subprogram
        code = tuple([self._with_target(instruction) for instruction in self._code])
        return Unit(
            subprogram.parent, len(subprogram.parameters), results, self._most, self.own.many_cells, code,
            tuple(self._regions),
        )

    def _with_target(self, instruction):
        """Returns an instruction with the index of its target instead of the label."""
        if instruction[0] in ("jump", "branch"):
            return instruction[:-1] + (self._labels[instruction[-1]],)
        return instruction
