"""What the names of a program mean. The meaning of a subprogram's name is its Subprogram (module program)."""


class Mark:
    """The kind and the range of a word, and for an array, whose elements they are, its first and last index."""

    def __init__(self, kind, low, high, first=None, last=None):
        self.kind = kind
        self.low = low
        self.high = high
        self.first = first
        self.last = last

    def is_array(self):
        """Returns True if this is the mark of an array, otherwise False."""
        return self.first is not None

    def size(self):
        """Returns the number of elements; 1 if this is no array."""
        return self.last - self.first + 1 if self.is_array() else 1

    def start_word(self):
        """Returns the word with which a variable or an element starts."""
        return 0 if self.low <= 0 <= self.high else self.low


class Variable:
    """A variable, constant, parameter or loop name, by its number in a subprogram that has the given level.

    The level of the main program is 1, and that of another subprogram the level of the one around it and one.
    """

    def __init__(self, owner, level, number, mark, writable):
        self.owner = owner
        self.level = level
        self.number = number
        self.mark = mark
        self.writable = writable


class Signal:
    """An exception by its number."""

    def __init__(self, number):
        self.number = number
