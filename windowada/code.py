"""Intermediate code: modules, units, and what their instructions read, write and lead to."""

RAISING = (
    "neg", "abs", "add", "sub", "mul", "div", "mod", "rem", "check", "call", "raise", "again", "get",
)
WRITING = (
    "move", "neg", "abs", "add", "sub", "mul", "div", "mod", "rem", "less", "equal", "load", "get",
)
LEAVING = ("return", "raise", "again")


class Unit:
    """One subprogram as code. parent is the number of the unit around it, -1 if there is none.

    arguments, results, registers and cells tell how many of them it has.
    """

    def __init__(self, parent, arguments, results, registers, cells, code, regions):
        self.parent = parent
        self.arguments = arguments
        self.results = results
        self.registers = registers
        self.cells = cells
        self.code = code
        self.regions = regions


class Module:
    """The units, the names of the exceptions and the places, each by number."""

    def __init__(self, units, names, places):
        self.units = units
        self.names = names
        self.places = places


def operands(instruction):
    """Returns the operands of an instruction in their order."""
    if instruction[0] == "call":
        return instruction[3]
    if instruction[0] == "return":
        return instruction[1]
    # In all other instructions the operands are the only parts that are tuples.
    return tuple([part for part in instruction if isinstance(part, tuple)])


def reads(instruction):
    """Returns the numbers of the registers among the operands, in their order."""
    return tuple([number for kind, number in operands(instruction) if kind == "reg"])


def writes(instruction):
    """Returns the numbers of the registers that an instruction may write."""
    if instruction[0] == "call":
        return instruction[4]
    return (instruction[1],) if instruction[0] in WRITING else ()


def can_raise(instruction):
    """Returns True if an instruction can raise an exception, otherwise False."""
    return instruction[0] in RAISING


def followers(instruction, index):
    """Returns the indexes at which a run may go on behind the instruction at an index, exceptions left out."""
    name = instruction[0]
    if name in LEAVING:
        return ()
    if name == "jump":
        return (instruction[1],)
    behind = index + 1
    if name == "branch" and instruction[2] != behind:
        return (min(instruction[2], behind), max(instruction[2], behind))
    return (behind,)


def region_of(unit, index):
    """Returns the region that is taken for an exception at an index, None if there is none."""
    for region in unit.regions:
        if region[0] <= index < region[1]:
            return region
    return None
