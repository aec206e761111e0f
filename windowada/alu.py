"""The arithmetic of the processor."""

from windowada.errors import AdaError
from windowada.words import arithmetic, compare

SIGNS = {"add": "+", "sub": "-", "mul": "*", "div": "/", "mod": "mod", "rem": "rem", "less": "<", "equal": "="}

# A word of the processor's code cannot hold each word. It is put together from a multiple of this and the rest.
PART = 2048


class Fault(AdaError):
    """A use of memory outside of it."""


def compute(name, left, right):
    """Returns the word that an operator gives for two words."""
    sign = SIGNS[name]
    if name in ("less", "equal"):
        return int(compare(sign, left, right))
    return arithmetic(sign, left, right)


def high_word(n):
    """Returns the word that the instruction high gives for a number."""
    return n * PART


def low_word(word, m):
    """Returns the word less its remainder, plus m."""
    return word - word % PART + m
