"""What a run does and how it ends."""

from windowada.errors import AdaError

NORMAL = ("normal",)
EXHAUSTED = ("exhausted",)
FAULT = ("fault",)
STOPPED = ("stopped",)

PREDEFINED = ("constraint_error", "program_error", "storage_error", "end_error")
CONSTRAINT = 0
PROGRAM = 1
STORAGE = 2
END = 3

DEPTH_LIMIT = 10


class NoInput(AdaError):
    """No input is left."""


class OutOfFuel(AdaError):
    """No unit of fuel is left."""


class Events:
    """The inputs of a run, how many of them were taken, and the events so far."""

    def __init__(self, inputs):
        self._inputs = list(inputs)
        self._taken = 0
        self._rows = []

    def put(self, word):
        """Adds the event of a word that is put out."""
        self._rows.append(("put", word))

    def get(self):
        """Takes the first input that is left, adds its event and returns it."""
        if self._taken == len(self._inputs):
            raise NoInput("no input is left")
        word = self._inputs[self._taken]
        self._taken += 1
        self._rows.append(("get", word))
        return word

    @property
    def rows(self):
        """All events so far."""
        return tuple(self._rows)


class Fuel:
    """The units of fuel that are left."""

    def __init__(self, units):
        self._left = units

    def tick(self):
        """Uses one unit."""
        if self._left == 0:
            raise OutOfFuel("no fuel is left")
        self._left -= 1

    @property
    def remaining(self):
        """The number of units that are left."""
        return self._left
