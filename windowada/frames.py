"""The state of a run of a checked program."""

from windowada.errors import AdaError
from windowada.outcome import CONSTRAINT


class Raised(AdaError):
    """An exception of the program that runs: its number and its place."""

    def __init__(self, number, place):
        super().__init__("an exception was raised")
        self.number = number
        self.place = place


class Run:
    """What all activations of a run have in common.

    call is the function that makes a call. Expressions contain calls and calls do statements, so the file that
    has it imports the others, and they find it here.
    """

    def __init__(self, program, events, fuel, call):
        self.program = program
        self.events = events
        self.fuel = fuel
        self.call = call


class Frame:
    """An activation of a subprogram.

    common is what it has in common with the other ones. link is the activation of the subprogram around it (the
    static link), and depth counts the callers. words has a word for each variable, for an array the list of its
    elements. caught is what raise without a name raises: the number and the place of an exception. result is what
    a function returned.
    """

    def __init__(self, run, subprogram, link, depth, words):
        self.common = run
        self.subprogram = subprogram
        self.link = link
        self.depth = depth
        self.words = words
        self.caught = None
        self.result = None

    def outward(self, hops):
        """Returns the activation that is some static links away."""
        frame = self
        for _ in range(hops):
            frame = frame.link
        return frame


def checked_word(word, mark, place):
    """Returns the word if it lies in the range of the mark."""
    if word < mark.low or word > mark.high:
        raise Raised(CONSTRAINT, place)
    return word
