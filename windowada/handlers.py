"""The trap handlers."""

from windowada.encode import encode
from windowada.roles import FIRST_LOCAL, SAVED, STACK


def trap_code(windows):
    """Returns the words of the spill handler and the words of the fill handler."""
    return tuple([encode(one) for one in _spill(windows)]), tuple([encode(one) for one in _fill(windows)])


def _spill(windows):
    """Returns the instructions of the spill handler."""
    return [
        ("bar", 19), ("sub", 20, 19, ("int", 1)), ("mod", 20, 20, ("int", windows)), ("setbar", ("int", -1)),
        ("save", 0, 0, ("int", 0)), *_moves("store"), ("restore",), ("setbar", ("reg", 20)), ("retry",),
    ]


def _fill(windows):
    """Returns the instructions of the fill handler."""
    return [
        ("bar", 19), ("add", 20, 19, ("int", 1)), ("mod", 20, 20, ("int", windows)), ("setbar", ("int", -1)),
        ("restore",), ("restore",), *_moves("load"), ("save", 0, 0, ("int", 0)), ("save", 0, 0, ("int", 0)),
        ("setbar", ("reg", 20)), ("retry",),
    ]


def _moves(name):
    """Returns the loads or stores between the registers that are saved and the save area."""
    return [(name, FIRST_LOCAL + at, STACK, ("int", at)) for at in range(SAVED)]
