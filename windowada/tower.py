"""A window file with any number of windows."""


class Tower:
    """The globals, the current window and those above it."""

    def __init__(self):
        self.depth = 0
        self.spills = 0
        self.fills = 0
        # The registers in view, and for each window above the current one, the first one first, the registers
        # 16 to 31 of its own view. The outs of a window are the ins of the one below it.
        self._view = [0] * 32
        self._above = []

    def read(self, number):
        """Returns the word of a register in view."""
        return self._view[number]

    def write(self, number, word):
        """Sets a register in view."""
        if number != 0:
            self._view[number] = word

    def shift_down(self):
        """Makes a new window."""
        self._above.append(self._view[16:])
        self._view[8:] = [0] * 16 + self._view[8:16]
        self.depth += 1

    def shift_up(self):
        """Goes back to the window above."""
        self._view[8:] = self._view[24:] + self._above.pop()
        self.depth -= 1

    def blocked_down(self):
        """Returns False: there is always room for a new window."""
        return False

    def blocked_up(self):
        """Returns False: all windows are held."""
        return False
