"""A window file with any number of windows."""

from windowada.views import empty_view, locals_and_ins, view_above, view_below


class Tower:
    """The globals, the current window and those above it."""

    def __init__(self):
        self.depth = 0
        self.spills = 0
        self.fills = 0
        self._view = empty_view()
        # The registers 16 to 31 of the windows above the current one, the oldest window first.
        self._above = []

    def read(self, number):
        """Returns the word of a register in view."""
        return self._view[number]

    def write(self, number, word):
        """Sets a register in view."""
        if number != 0:
            self._view[number] = word

    def shift_down(self):
        """Makes a new window."""
        self._above.append(locals_and_ins(self._view))
        self._view = view_below(self._view)
        self.depth += 1

    def shift_up(self):
        """Goes back to the window above."""
        self._view = view_above(self._view, self._above.pop())
        self.depth -= 1

    def blocked_down(self):
        """Returns False: there is always room for a new window."""
        return False

    def blocked_up(self):
        """Returns False: all windows are held."""
        return False
