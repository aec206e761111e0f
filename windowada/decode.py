"""The instructions that words of the processor stand for."""

from windowada.encode import encode
from windowada.errors import ImageError
from windowada.instructions import FIELDS, FLAG, FORMS, NAME_SHIFT, NAMES

BAD = ("bad",)


def decode(word):
    """Returns the instruction that has a word, ("bad",) if there is none."""
    number = word >> NAME_SHIFT
    if number >= len(NAMES):
        return BAD
    name = NAMES[number]
    instruction = (name, *[_part_of(field, word) for field in FORMS[name]])
    # The bits outside of the fields, the flag and the bounds are looked at by going back.
    try:
        is_same = encode(instruction) == word
    except ImageError:
        is_same = False
    return instruction if is_same else BAD


def _part_of(field, word):
    """Returns the part of an instruction that stands in a field of its word."""
    if field == "source":
        kind = "reg" if word & FLAG == 0 else "int"
        return (kind, _part_of(kind, word))
    shift, many, low, _ = FIELDS[field]
    number = (word >> shift) & ((1 << many) - 1)
    if low < 0 and number >= 1 << (many - 1):
        number -= 1 << many
    return number
