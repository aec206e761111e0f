"""The registers in view of a window: a list of 32 words by their numbers.

The outs of a window are the ins of the one below it. So the registers 16 to 31 of each window above the current one
and the view of the current one are all that there is.
"""

from windowada.roles import FIRST_IN, FIRST_LOCAL, FIRST_OUT


def empty_view():
    """Returns the view of the first window."""
    return [0] * 32


def locals_and_ins(view):
    """Returns the registers 16 to 31 of a view."""
    return view[FIRST_LOCAL:]


def view_below(view):
    """Returns the view of a new window below the one with a view."""
    return view[:FIRST_OUT] + [0] * (FIRST_IN - FIRST_OUT) + view[FIRST_OUT:FIRST_LOCAL]


def view_above(view, words):
    """Returns the view of the window above the one with a view; words are its registers 16 to 31."""
    return view[:FIRST_OUT] + view[FIRST_IN:] + words
