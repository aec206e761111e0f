"""Checked programs.

The checked forms are tuples. A variable is given by the number of static links that lead to its activation
(hops) and by its number there, and a subprogram by its number and the hops to the activation around it. All
words are integers, truth values too. P is a place, E an expression, T a target, and S, D and H are tuples of
statements, declarations and handlers.

- Expressions: ("number", word, P), ("variable", hops, number, P), ("element", hops, number, E, P),
  ("call", subprogram, hops, arguments, P), ("unary", operator, E, P), ("binary", operator, E, E, P).
- Targets: ("variable", hops, number, P), ("element", hops, number, E, P).
- Statements: ("null",), ("assign", T, E), ("put", E), ("get", T, P), ("call", subprogram, hops, arguments, P),
  ("if", pairs (E, S), S), ("while", E, S), ("loop", S), ("for", number, backward, E, E, S),
  ("case", E, pairs (choices, S), S), ("exit", E or None), ("return", E or None),
  ("raise", number of the exception or None, P), ("block", D, S, H).
- Handlers: (numbers of exceptions or None, S).
- Declarations: (number of the variable, E or None). Only variables and constants leave one.

An argument is a target if the parameter has the mode out or in out, otherwise an expression.
"""


class Subprogram:
    """A procedure or function of a checked program.

    number is its own number and parent that of the subprogram around it, -1 for the main program. level is its
    depth from 1 on. parameters are pairs (mode, mark); they are the first variables. result is the mark of a
    function's result, and None for a procedure. marks are those of all variables by number. shared are the
    ascending numbers of the variables that other subprograms use.
    """

    def __init__(self, number, parent, level, place, parameters, result):
        self.number = number
        self.parent = parent
        self.level = level
        self.place = place
        self.parameters = parameters
        self.result = result
        self.marks = ()
        self.shared = ()
        self.declarations = ()
        self.statements = ()
        self.handlers = ()

    def set_variables(self, marks, shared):
        """Sets what is known of the variables when the whole subprogram is checked."""
        self.marks = marks
        self.shared = shared

    def set_parts(self, declarations, statements, handlers):
        """Sets the checked parts."""
        self.declarations = declarations
        self.statements = statements
        self.handlers = handlers


class Program:
    """A checked program: its subprograms and the names of its exceptions, both by number."""

    def __init__(self, subprograms, exceptions):
        self.subprograms = subprograms
        self.exceptions = exceptions


def captured(program):
    """Returns for each subprogram the numbers of its variables that another subprogram uses."""
    return tuple([subprogram.shared for subprogram in program.subprograms])
