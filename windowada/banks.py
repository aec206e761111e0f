"""A window file with a ring of windows, for trap handlers."""


class Banks:
    """The globals and the windows. current is the number of the current window, barred that of the barred one."""

    def __init__(self, windows):
        self.depth = 0
        self.spills = 0
        self.fills = 0
        self.current = 0
        self.barred = 1
        self._globals = [0] * 8
        # The registers 16 to 31 of each window. Its outs are the ins of the window below it.
        self._windows = [[0] * 16 for _ in range(windows)]

    def read(self, number):
        """Returns the word of a register in view."""
        if number < 8:
            return self._globals[number]
        if number < 16:
            return self._windows[self._window_below()][number]
        return self._windows[self.current][number - 16]

    def write(self, number, word):
        """Sets a register in view."""
        if number >= 16:
            self._windows[self.current][number - 16] = word
        elif number >= 8:
            self._windows[self._window_below()][number] = word
        elif number != 0:
            self._globals[number] = word

    def shift_down(self):
        """Makes the window below the current one; its locals and outs become 0 if a window is barred."""
        self._go_down()
        if self.barred != -1:
            self._windows[self.current][:8] = [0] * 8
            self._windows[self._window_below()][8:] = [0] * 8

    def shift_up(self):
        """Makes the window above the current one."""
        self.current = self._window_above()
        self.depth -= 1

    def blocked_down(self):
        """Returns True if the window below the current one is barred, otherwise False."""
        return self._window_below() == self.barred

    def blocked_up(self):
        """Returns True if the window above the current one is barred, otherwise False."""
        return self._window_above() == self.barred

    def set_bar(self, number):
        """Bars a window, none if the number is -1."""
        self.barred = number

    def trap_down(self, address):
        """Begins a trap ahead of a save."""
        self.spills += 1
        self._begin_trap(address)

    def trap_up(self, address):
        """Begins a trap ahead of a restore."""
        self.fills += 1
        self._begin_trap(address)

    def leave_trap(self):
        """Ends a trap and returns the address with which it began."""
        address = self.read(17)
        self.shift_up()
        return address

    def _begin_trap(self, address):
        """Goes to the window below, with an address in its register 17."""
        self._go_down()
        self.write(17, address)

    def _go_down(self):
        """Goes to the window below."""
        self.current = self._window_below()
        self.depth += 1

    def _window_below(self):
        """Returns the number of the window below the current one."""
        return (self.current - 1) % len(self._windows)

    def _window_above(self):
        """Returns the number of the window above the current one."""
        return (self.current + 1) % len(self._windows)
