"""Which registers of a unit are needed at each index of its code.

A set of registers is an integer here: the bit with the value 2 ** n stands for register n.
"""

from windowada.code import can_raise, followers, reads, writes
from windowada.flow import edges, taken_regions, ways_back


def live(unit):
    """Returns for each index the registers that are live there, as ascending tuples."""
    masks = live_masks(unit)
    # Many indexes have the same set.
    tuples = {}
    for mask in masks:
        if mask not in tuples:
            tuples[mask] = numbers_of(mask)
    return tuple([tuples[mask] for mask in masks])


def live_masks(unit):
    """Returns for each index the set of the registers that are live there."""
    taken = taken_regions(unit)
    back = ways_back(edges(unit))
    needed = [0] * len(unit.code)
    # The last index is looked at first, since what is needed at an index depends on those that follow it.
    pending = list(range(len(unit.code)))
    while pending:
        index = pending.pop()
        mask = _needed_at(unit.code[index], index, taken[index], needed)
        if mask != needed[index]:
            needed[index] = mask
            pending.extend(back[index])
    return needed


def mask_of(numbers):
    """Returns the set of some registers."""
    mask = 0
    for number in numbers:
        mask |= 1 << number
    return mask


def numbers_of(mask):
    """Returns the registers of a set as an ascending tuple."""
    return tuple([number for number in range(mask.bit_length()) if (mask >> number) & 1 == 1])


def _needed_at(instruction, index, region, needed):
    """Returns the registers that are live ahead of an instruction, from those that are live at other indexes."""
    mask = 0
    for target in followers(instruction, index):
        mask |= needed[target]
    mask &= ~mask_of(writes(instruction))
    if region is not None and can_raise(instruction):
        mask |= needed[region[2]] & ~mask_of(region[3:])
    return mask | mask_of(reads(instruction))
