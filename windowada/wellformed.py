"""The rules that each module of intermediate code keeps."""

from windowada.code import can_raise, operands, reads, writes
from windowada.errors import CodeError
from windowada.outcome import PREDEFINED
from windowada.words import fits

MOST_UNITS = 20
MOST_AROUND = 3
MOST_PASSED = 6
MOST_REGISTERS = 200
MOST_CELLS = 60
MOST_INSTRUCTIONS = 100000
MOST_REGIONS = 2000

LAST = ("jump", "return", "raise", "again")


def check_module(module):
    """Raises CodeError if a module is not well formed."""
    _require(1 <= len(module.units) <= MOST_UNITS, "the count of units is wrong")
    _require(module.names[:len(PREDEFINED)] == PREDEFINED, "the predefined names are not the first ones")
    # The parents of all units come first: calls, loads and stores lead to other units.
    around = []
    for number, unit in enumerate(module.units):
        around.append(_units_around(around, number, unit))
    for number, unit in enumerate(module.units):
        _check_counts(unit)
        _check_ends(unit)
        _check_regions(unit)
        for index, instruction in enumerate(unit.code):
            _check_numbers(module, unit, instruction)
            _check_shape(module, [number] + around[number], index, instruction)
    main = module.units[0]
    _require(main.arguments == 0 and main.results == 0, "the main program takes and returns nothing")


def _require(condition, message):
    """Raises CodeError if a condition does not hold."""
    if not condition:
        raise CodeError(message)


def _units_around(around, number, unit):
    """Returns the numbers of the units around a unit from the inside out; around has those of the units before."""
    if number == 0:
        _require(unit.parent == -1, "the main program has a parent")
        return []
    _require(0 <= unit.parent < number, "the parent of a unit is wrong")
    numbers = [unit.parent] + around[unit.parent]
    _require(len(numbers) <= MOST_AROUND, "too many units stand around a unit")
    return numbers


def _check_counts(unit):
    """Looks at how many parts a unit has."""
    _require(0 <= unit.arguments <= MOST_PASSED, "the count of arguments is wrong")
    _require(0 <= unit.results <= MOST_PASSED, "the count of results is wrong")
    _require(unit.arguments <= unit.registers <= MOST_REGISTERS, "the count of registers is wrong")
    _require(0 <= unit.cells <= MOST_CELLS, "the count of cells is wrong")
    _require(1 <= len(unit.code) <= MOST_INSTRUCTIONS, "the count of instructions is wrong")
    _require(len(unit.regions) <= MOST_REGIONS, "there are too many regions")


def _check_ends(unit):
    """Looks at the first and the last instruction of a unit."""
    _require(unit.code[0][0] == "tick", "the first instruction is no tick")
    _require(unit.code[-1][0] in LAST, "the code has no end")


def _check_regions(unit):
    """Looks at the regions of a unit."""
    for start, stop, entry, number, place in unit.regions:
        _require(0 <= start < stop <= entry < len(unit.code), "the indexes of a region are wrong")
        _require(number != place, "the registers of a region are the same")
        _require_registers(unit, (number, place))


def _require_registers(unit, numbers):
    """Looks whether a unit has some registers."""
    for number in numbers:
        _require(0 <= number < unit.registers, "there is no such register")


def _check_numbers(module, unit, instruction):
    """Looks at the registers, words and places that an instruction names."""
    _require_registers(unit, reads(instruction))
    _require_registers(unit, writes(instruction))
    for kind, number in operands(instruction):
        _require(kind == "reg" or fits(number), "a number is no word")
    if can_raise(instruction) and instruction[0] != "again":
        _require(0 <= instruction[-1] < len(module.places), "there is no such place")


def _check_shape(module, chain, index, instruction):
    """Looks at what the forms of instructions ask for; chain has the unit's number and those of the units around."""
    unit = module.units[chain[0]]
    match instruction:
        case ("jump", target):
            _check_target(unit, index, target)
        case ("branch", _, target):
            _check_target(unit, index, target)
        case ("check", _, low, high, _):
            _require(fits(low) and fits(high) and low <= high, "the bounds of a check are wrong")
        case ("load", _, hops, cell, count, _):
            _check_cells(module, chain, hops, cell, count)
        case ("store", hops, cell, count, _, _):
            _check_cells(module, chain, hops, cell, count)
        case ("call", called, hops, arguments, results, _):
            _check_call(module, chain, called, hops)
            _check_passed(module.units[called], arguments, results)
        case ("return", values):
            _require(len(values) == unit.results, "the count of returned values is wrong")
        case ("raise", number, _):
            _require(0 <= number < len(module.names), "there is no such exception")


def _check_target(unit, index, target):
    """Looks at the target of a jump or branch."""
    _require(0 <= target < len(unit.code), "a target is no index of the code")
    _require(target > index or unit.code[target][0] == "tick", "a way backward does not lead to a tick")


def _check_cells(module, chain, hops, cell, count):
    """Looks at the cells of a load or store."""
    _require(0 <= hops < len(chain), "there are not so many units around")
    cells = module.units[chain[hops]].cells
    _require(count >= 1 and 0 <= cell <= cells - count, "there are no such cells")


def _check_call(module, chain, called, hops):
    """Looks at which unit is called, and from where."""
    _require(1 <= called < len(module.units), "the called unit is wrong")
    _require(0 <= hops < len(chain), "there are not so many units around")
    _require(module.units[called].parent == chain[hops], "the static link of a call is wrong")


def _check_passed(unit, arguments, results):
    """Looks at the arguments and results of a call of a unit."""
    _require(len(arguments) == unit.arguments, "the count of arguments of a call is wrong")
    _require(len(results) == unit.results, "the count of results of a call is wrong")
    _require(len(set(results)) == len(results), "a result of a call has a register twice")
