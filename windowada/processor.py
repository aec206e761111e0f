"""The processor."""

from windowada.banks import Banks
from windowada.core import Core
from windowada.decode import decode
from windowada.handlers import trap_code
from windowada.ring import Ring
from windowada.tower import Tower


class Processor:
    """A processor for an image: with any number of windows, or with so many and trap handlers or a Ring."""

    def __init__(self, image, *, windows=None, trapping=True):
        self._image = image
        self._windows = windows
        self._trapping = trapping
        self._instructions = [decode(word) for word in image.words]
        self._handlers = []
        if windows is not None and trapping:
            self._handlers = [[decode(word) for word in words] for words in trap_code(windows)]
        self._counts = (0, 0, 0)

    def run(self, inputs, *, fuel, steps):
        """Returns the events and the ending of a run."""
        memory = [0] * self._image.memory
        windows = self._window_file(memory)
        core = Core(self._image, self._instructions, self._handlers, windows, memory)
        result = core.run(inputs, fuel, steps)
        self._counts = (windows.spills, windows.fills, core.deepest)
        return result

    @property
    def counts(self):
        """The spills, the fills and the greatest depth of the last run."""
        return self._counts

    def _window_file(self, memory):
        """Returns a new window file."""
        if self._windows is None:
            return Tower()
        if self._trapping:
            return Banks(self._windows)
        return Ring(memory, self._windows)
