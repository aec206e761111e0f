"""The instructions that bring a word into a register."""

from windowada.alu import PART
from windowada.instructions import FIELDS


def is_short(word):
    """Returns True if a word can stand in an instruction as an operand, otherwise False."""
    _, _, low, high = FIELDS["int"]
    return low <= word <= high


def constant(target, word):
    """Returns the list of instructions that bring a word into the register with the number target."""
    if is_short(word):
        return [("add", target, 0, ("int", word))]
    return [("high", target, word // PART), ("low", target, target, word % PART)]
