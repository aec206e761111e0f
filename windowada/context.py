"""What is known at one point of a program while it is checked."""

from windowada.errors import DuplicateName, TooLarge
from windowada.kinds import BOOLEAN, INTEGER
from windowada.meanings import Mark, Signal, Variable
from windowada.outcome import PREDEFINED
from windowada.program import Program, Subprogram
from windowada.scope import Scopes
from windowada.words import MAX, MIN

MOST_SUBPROGRAMS = 20
MOST_VARIABLES = 40

MARK_NAMES = ("integer", "boolean")


class OpenSubprogram:
    """A subprogram that is being checked.

    many is the number of its variables, where an array counts as many as it has elements. loops and handlers
    tell how many of the subprogram's loops and handlers are around the point that is checked.
    """

    def __init__(self, subprogram):
        self.subprogram = subprogram
        self.marks = []
        self.many = 0
        self.shared = {}
        self.loops = 0
        self.handlers = 0


class Context:
    """The names that are visible, the subprograms around the point that is checked, and what was declared."""

    def __init__(self):
        self._scopes = Scopes()
        self._around = []
        self._subprograms = []
        self._exceptions = []
        self._declare_predefined()

    def _declare_predefined(self):
        """Opens the outermost region, which has the predefined names."""
        self._scopes.enter()
        self._scopes.declare("integer", Mark(INTEGER, MIN, MAX), (1, 1))
        self._scopes.declare("boolean", Mark(BOOLEAN, 0, 1), (1, 1))
        for name in PREDEFINED:
            self._scopes.declare(name, self._new_signal(name), (1, 1))

    def _new_signal(self, name):
        """Returns one more exception."""
        self._exceptions.append(name)
        return Signal(len(self._exceptions) - 1)

    def inner(self):
        """Returns the innermost subprogram."""
        return self._around[-1].subprogram

    def enter_loop(self):
        """Notes that what follows is in one more loop."""
        self._around[-1].loops += 1

    def leave_loop(self):
        """Notes that a loop ends."""
        self._around[-1].loops -= 1

    def in_loop(self):
        """Returns True if a loop of the innermost subprogram is around this point."""
        return self._around[-1].loops > 0

    def enter_handler(self):
        """Notes that what follows is in one more handler."""
        self._around[-1].handlers += 1

    def leave_handler(self):
        """Notes that a handler ends."""
        self._around[-1].handlers -= 1

    def in_handler(self):
        """Returns True if a handler of the innermost subprogram is around this point."""
        return self._around[-1].handlers > 0

    def enter(self):
        """Opens a region."""
        self._scopes.enter()

    def leave(self):
        """Closes the innermost region."""
        self._scopes.leave()

    def find(self, name, place):
        """Returns the meaning of a name."""
        return self._scopes.lookup(name, place)

    def declare(self, name, meaning, place):
        """Adds a name to the innermost region."""
        if name in MARK_NAMES or name in PREDEFINED:
            raise DuplicateName(f"{name} is predefined", place)
        self._scopes.declare(name, meaning, place)

    def declare_exception(self, name, place):
        """Adds the name of one more exception."""
        self.declare(name, self._new_signal(name), place)

    def declare_variable(self, name, mark, writable, place):
        """Adds the name of one more variable of the innermost subprogram and returns its number."""
        around = self._around[-1]
        number = len(around.marks)
        around.marks.append(mark)
        around.many += mark.size()
        if around.many > MOST_VARIABLES:
            raise TooLarge("a subprogram has too many variables", place)
        subprogram = around.subprogram
        variable = Variable(subprogram.number, subprogram.level, number, mark, writable)
        self.declare(name, variable, place)
        return number

    def use(self, variable):
        """Notes a use of a variable, and returns the number of static links to its activation."""
        subprogram = self.inner()
        if variable.owner != subprogram.number:
            self._around[variable.level - 1].shared[variable.number] = True
        return subprogram.level - variable.level

    def new_subprogram(self, place, parameters, result):
        """Returns one more subprogram, which stands inside of the innermost one."""
        number = len(self._subprograms)
        if number == MOST_SUBPROGRAMS:
            raise TooLarge("there are too many subprograms", place)
        parent = self.inner().number if self._around != [] else -1
        subprogram = Subprogram(number, parent, len(self._around) + 1, place, parameters, result)
        self._subprograms.append(subprogram)
        return subprogram

    def begin(self, subprogram):
        """Makes a subprogram the innermost one and opens its region."""
        self._around.append(OpenSubprogram(subprogram))
        self.enter()

    def finish(self):
        """Closes the region of the innermost subprogram and goes back to the one around it."""
        self.leave()
        done = self._around.pop()
        done.subprogram.set_variables(tuple(done.marks), tuple(sorted(done.shared)))

    def checked_program(self):
        """Returns the checked program."""
        return Program(tuple(self._subprograms), tuple(self._exceptions))
