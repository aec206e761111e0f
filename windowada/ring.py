"""A window file that holds the youngest windows and has the older ones in the memory."""

from windowada.alu import Fault
from windowada.roles import SAVED
from windowada.views import empty_view, locals_and_ins, view_above, view_below

# Where the stack pointer of the window above stands among the registers that are saved of a window.
POINTER = 14


class Ring:
    """The globals and the windows that are held; resident is the number of these."""

    def __init__(self, memory, windows):
        self.depth = 0
        self.spills = 0
        self.fills = 0
        self.resident = 1
        self._memory = memory
        self._most = windows - 1
        self._view = empty_view()
        # The registers 16 to 31 of those windows above the current one that are held, the oldest window first.
        self._above = []

    def read(self, number):
        """Returns the word of a register in view."""
        return self._view[number]

    def write(self, number, word):
        """Sets a register in view."""
        if number != 0:
            self._view[number] = word

    def shift_down(self):
        """Makes a new window. The oldest one is spilled first, if no more may be held."""
        if self.resident == self._most:
            self._spill()
        self._above.append(locals_and_ins(self._view))
        self._view = view_below(self._view)
        self.depth += 1
        self.resident += 1

    def shift_up(self):
        """Goes back to the window above, which is filled first if it is not held."""
        if self.resident == 1:
            self._fill()
        self._view = view_above(self._view, self._above.pop())
        self.depth -= 1
        self.resident -= 1

    def blocked_down(self):
        """Returns False: room is made when it is needed."""
        return False

    def blocked_up(self):
        """Returns False: windows are filled when they are needed."""
        return False

    def _spill(self):
        """Brings the oldest window that is held to its save area."""
        below = self._above[1] if self.resident > 2 else locals_and_ins(self._view)
        start = self._save_area(below[POINTER])
        self._memory[start:start + SAVED] = self._above.pop(0)
        self.spills += 1
        self.resident -= 1

    def _fill(self):
        """Brings the window above the current one back from its save area."""
        start = self._save_area(locals_and_ins(self._view)[POINTER])
        self._above.append(self._memory[start:start + SAVED])
        self.fills += 1
        self.resident += 1

    def _save_area(self, start):
        """Returns the first address of a save area that lies in the memory."""
        if not 0 <= start <= len(self._memory) - SAVED:
            raise Fault("a save area does not lie in the memory")
        return start
