"""The words of the processor's instructions."""

from windowada.errors import ImageError
from windowada.instructions import FIELDS, FLAG, FORMS, NAME_SHIFT, NAMES


def encode(instruction):
    """Returns the word of an instruction."""
    name = instruction[0]
    word = NAMES.index(name) << NAME_SHIFT
    for field, part in zip(FORMS[name], instruction[1:]):
        word += _bits_of(field, part)
    return word


def _bits_of(field, part):
    """Returns what a part of an instruction adds to its word."""
    if field == "source":
        kind, number = part
        return _bits_of(kind, number)
    shift, many, low, high = FIELDS[field]
    if not low <= part <= high:
        # The number is not told: it may have more digits than Python writes.
        raise ImageError(f"a number does not fit into the field {field}")
    bits = (part & ((1 << many) - 1)) << shift
    return bits + FLAG if field in ("int", "part") else bits
