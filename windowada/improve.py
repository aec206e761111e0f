"""Improved intermediate code: what never happens, and checks that always hold, are left out."""

from windowada.code import Module, Unit
from windowada.intervals import always_holds, intervals, state_behind, ways_onward
from windowada.outcome import CONSTRAINT


def improve(module):
    """Returns the improved module."""
    return Module(tuple([_improve_unit(unit) for unit in module.units]), module.names, module.places)


def _improve_unit(unit):
    """Returns the improved unit: one in which another round changes nothing."""
    better = _shorten(unit)
    while (better.code, better.regions) != (unit.code, unit.regions):
        unit = better
        better = _shorten(unit)
    return better


def _shorten(unit):
    """Returns a unit after one round of improvement."""
    states = intervals(unit)
    rewritten = [_rewrite(instruction, index, states[index]) for index, instruction in enumerate(unit.code)]
    code = _without_idle_jumps(rewritten)
    indexes = _new_indexes(code)
    regions = []
    for start, stop, entry, number, place in unit.regions:
        if states[entry] is not None and indexes[start] < indexes[stop]:
            regions.append((indexes[start], indexes[stop], indexes[entry], number, place))
    kept = tuple([_with_target(instruction, indexes) for instruction in code if instruction is not None])
    return Unit(unit.parent, unit.arguments, unit.results, unit.registers, unit.cells, kept, tuple(regions))


def _rewrite(instruction, index, state):
    """Returns what stands for an instruction ahead of which the registers have some intervals, None for nothing."""
    if state is None:
        return None
    name = instruction[0]
    if name == "check" and always_holds(instruction, state):
        return None
    if name == "branch":
        ways = ways_onward(instruction, index, state)
        if ways == (index + 1,):
            return None
        return ("jump", instruction[2]) if len(ways) == 1 else instruction
    # Only a check or an operator can have nothing behind it, and then it raises constraint_error.
    if state_behind(instruction, state) is None:
        return ("raise", CONSTRAINT, instruction[-1])
    return instruction


def _without_idle_jumps(code):
    """Returns the code without jumps and branches that go where the run would go on anyway."""
    left = list(code)
    # The first index from each one on whose instruction stays. What stays behind a jump must be known before it.
    next_index = list(range(len(code) + 1))
    for index in reversed(range(len(code))):
        instruction = code[index]
        behind = next_index[index + 1]
        if instruction is None or (instruction[0] in ("jump", "branch") and next_index[instruction[-1]] == behind):
            left[index] = None
            next_index[index] = behind
    return left


def _new_indexes(code):
    """Returns the new index of each old one: that of the next instruction that stays."""
    indexes = []
    many = 0
    for instruction in code:
        indexes.append(many)
        if instruction is not None:
            many += 1
    return indexes


def _with_target(instruction, indexes):
    """Returns an instruction with the new index of its target."""
    if instruction[0] in ("jump", "branch"):
        return instruction[:-1] + (indexes[instruction[-1]],)
    return instruction
