"""Places for the registers of a unit."""

from windowada.code import followers, reads, writes
from windowada.liveness import live_masks, mask_of, numbers_of

LOCALS = 8
INS = 6


def conflicts(unit):
    """Returns for each register those that are in conflict with it, as ascending tuples."""
    needed = live_masks(unit)
    found = [0] * unit.registers
    # Many indexes have the same set.
    for mask in {one: True for one in needed}:
        _add_conflicts(found, mask, mask)
    for index, instruction in enumerate(unit.code):
        # Several registers are written only as the results of one call.
        written = mask_of(writes(instruction))
        _add_conflicts(found, written, written)
        for target in followers(instruction, index):
            _add_conflicts(found, written, needed[target])
    for region in unit.regions:
        written = mask_of(region[3:])
        _add_conflicts(found, written, written | needed[region[2]])
    return tuple([numbers_of(mask) for mask in _in_both_ways(found)])


def is_sound(unit, assignment):
    """Returns True if an assignment is sound, otherwise False."""
    used = registers_read(unit)
    if any([(place is not None) != is_read for place, is_read in zip(assignment, used)]):
        return False
    for number, others in enumerate(conflicts(unit)):
        place = assignment[number]
        if place is not None and any([assignment[other] == place for other in others]):
            return False
    return all([assignment[number] == ("in", number) for number in live_arguments(unit)])


def assign(unit):
    """Returns an assignment that is sound."""
    used = registers_read(unit)
    in_conflict = conflicts(unit)
    assignment = [None] * unit.registers
    for number in live_arguments(unit):
        assignment[number] = ("in", number)
    for number in range(unit.registers):
        if used[number] and assignment[number] is None:
            assignment[number] = _first_free([assignment[other] for other in in_conflict[number]])
    return tuple(assignment)


def registers_read(unit):
    """Returns for each register whether an instruction reads it."""
    used = [False] * unit.registers
    for instruction in unit.code:
        for number in reads(instruction):
            used[number] = True
    return used


def live_arguments(unit):
    """Returns the registers of the arguments that are live at index 0."""
    return tuple([number for number in numbers_of(live_masks(unit)[0]) if number < unit.arguments])


def _add_conflicts(found, some, others):
    """Adds conflicts of each register of one set with each of another one."""
    for number in numbers_of(some):
        found[number] |= others


def _in_both_ways(found):
    """Returns the conflicts so that each one stands at both of its registers, and none at one register alone."""
    both = list(found)
    for number, mask in enumerate(found):
        for other in numbers_of(mask):
            both[other] |= 1 << number
    return [mask & ~(1 << number) for number, mask in enumerate(both)]


def _first_free(places):
    """Returns the first place that is none of some places."""
    for number in range(LOCALS):
        if ("local", number) not in places:
            return ("local", number)
    for number in range(INS):
        if ("in", number) not in places:
            return ("in", number)
    slot = 0
    while ("slot", slot) in places:
        slot += 1
    return ("slot", slot)
