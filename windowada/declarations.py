"""The trees of programs, of their declarations and of the statements that contain other statements."""

from windowada.errors import TooLarge
from windowada.expressions import read_expression
from windowada.grammar import accept
from windowada.reader import Reader
from windowada.statements import read_simple
from windowada.tokens import scan

DEEPEST_STATEMENT = 5
DEEPEST_SUBPROGRAM = 4

# The words before which a sequence of statements ends.
ENDS = ("end", "exception", "when", "elsif", "else")


def parse(text):
    """Returns the tree of a text that is a program."""
    tokens = scan(text)
    accept(tokens, "Program")
    return _read_subprogram(Reader(tokens), 1)


# In the following functions, level is the depth of the subprogram that is read.


def _read_declarations(reader, level):
    """Returns the trees of the declarations up to the next begin."""
    declarations = []
    while reader.peek() != "begin":
        if reader.peek() in ("procedure", "function"):
            declarations.append(_read_subprogram(reader, level + 1))
        elif reader.peek() == "subtype":
            declarations.append(_read_subtype(reader))
        elif reader.peek() == "type":
            declarations.append(_read_array(reader))
        else:
            declarations.append(_read_object(reader))
    return tuple(declarations)


def _read_object(reader):
    """Returns the tree of the declaration of a variable, a constant or an exception."""
    place = reader.here()
    name = reader.take()
    reader.take()
    if reader.peek() == "exception":
        reader.skip(2)
        return ("exception", name, place)
    form = "constant" if reader.takes("constant") else "variable"
    mark = reader.take()
    expression = None
    if reader.takes(":="):
        expression = read_expression(reader)
    reader.take()
    return (form, name, mark, expression, place)


def _read_subtype(reader):
    """Returns the tree of the declaration of a subtype."""
    reader.take()
    place = reader.here()
    name = reader.take()
    reader.take()
    mark = reader.take()
    reader.take()
    low = _read_bound(reader)
    reader.take()
    high = _read_bound(reader)
    reader.take()
    return ("subtype", name, mark, low, high, place)


def _read_array(reader):
    """Returns the tree of the declaration of an array."""
    reader.take()
    place = reader.here()
    name = reader.take()
    reader.skip(3)
    low = _read_bound(reader)
    reader.take()
    high = _read_bound(reader)
    reader.skip(2)
    mark = reader.take()
    reader.take()
    return ("array", name, low, high, mark, place)


def _read_bound(reader):
    """Returns the value of the next bound."""
    if reader.takes("-"):
        return -reader.take()
    return reader.take()


def _read_subprogram(reader, level):
    """Returns the tree of the next procedure or function; the main program is a procedure, too."""
    if level > DEEPEST_SUBPROGRAM:
        raise TooLarge("a subprogram is too deep", reader.here())
    form = reader.take()
    place = reader.here()
    name = reader.take()
    head = (form, name, _read_parameters(reader))
    if form == "function":
        reader.take()
        head = (*head, reader.take())
    reader.take()
    declarations = _read_declarations(reader, level)
    statements, handlers = _read_body(reader, 1, level)
    reader.takes(name)
    reader.take()
    return (*head, declarations, statements, handlers, place)


def _read_parameters(reader):
    """Returns the parameters of a subprogram."""
    if not reader.takes("("):
        return ()
    parameters = [_read_parameter(reader)]
    while reader.takes(";"):
        parameters.append(_read_parameter(reader))
    reader.take()
    return tuple(parameters)


def _read_parameter(reader):
    """Returns the next parameter."""
    place = reader.here()
    name = reader.take()
    reader.take()
    mode = "in"
    inward = reader.takes("in")
    if reader.takes("out"):
        mode = "in out" if inward else "out"
    return (name, mode, reader.take(), place)


# In the following functions, deep is the depth of the statements that are read.


def _read_body(reader, deep, level):
    """Returns the statements and the handlers of the next body."""
    reader.take()
    statements = _read_statements(reader, deep, level)
    handlers = []
    if reader.takes("exception"):
        while reader.peek() == "when":
            handlers.append(_read_handler(reader, deep, level))
    reader.take()
    return statements, tuple(handlers)


def _read_handler(reader, deep, level):
    """Returns the tree of the next handler."""
    place = reader.here()
    reader.take()
    names = None
    if not reader.takes("others"):
        names = [reader.take()]
        while reader.takes("|"):
            names.append(reader.take())
        names = tuple(names)
    reader.take()
    return (names, _read_statements(reader, deep, level), place)


def _read_statements(reader, deep, level):
    """Returns the trees of the statements up to a word that ends them."""
    if deep > DEEPEST_STATEMENT:
        raise TooLarge("a statement is too deep", reader.here())
    statements = []
    while reader.peek() not in ENDS:
        action = COMPOUND.get(reader.peek())
        if action is None:
            statements.append(read_simple(reader))
        else:
            statements.append(action(reader, deep, level))
    return tuple(statements)


def _read_if(reader, deep, level):
    """Returns the tree of an if statement."""
    place = reader.here()
    branches = []
    while reader.peek() in ("if", "elsif"):
        reader.take()
        condition = read_expression(reader)
        reader.take()
        branches.append((condition, _read_statements(reader, deep + 1, level)))
    otherwise = ()
    if reader.takes("else"):
        otherwise = _read_statements(reader, deep + 1, level)
    reader.skip(3)
    return ("if", tuple(branches), otherwise, place)


def _read_turns(reader, deep, level):
    """Returns the statements between loop and end loop."""
    reader.take()
    statements = _read_statements(reader, deep + 1, level)
    reader.skip(3)
    return statements


def _read_while(reader, deep, level):
    """Returns the tree of a while loop."""
    place = reader.here()
    reader.take()
    condition = read_expression(reader)
    return ("while", condition, _read_turns(reader, deep, level), place)


def _read_loop(reader, deep, level):
    """Returns the tree of a plain loop."""
    place = reader.here()
    return ("loop", _read_turns(reader, deep, level), place)


def _read_for(reader, deep, level):
    """Returns the tree of a for loop."""
    place = reader.here()
    reader.take()
    name = reader.take()
    reader.take()
    backward = reader.takes("reverse")
    low = read_expression(reader)
    reader.take()
    high = read_expression(reader)
    return ("for", name, backward, low, high, _read_turns(reader, deep, level), place)


def _read_case(reader, deep, level):
    """Returns the tree of a case statement."""
    place = reader.here()
    reader.take()
    expression = read_expression(reader)
    reader.skip(2)
    arms = []
    while not reader.takes("others"):
        choices = _read_choices(reader)
        arms.append((choices, _read_statements(reader, deep + 1, level)))
        reader.take()
    reader.take()
    otherwise = _read_statements(reader, deep + 1, level)
    reader.skip(3)
    return ("case", expression, tuple(arms), otherwise, place)


def _read_choices(reader):
    """Returns the choices of one arm."""
    choices = [_read_choice(reader)]
    while reader.takes("|"):
        choices.append(_read_choice(reader))
    reader.take()
    return tuple(choices)


def _read_choice(reader):
    """Returns the two bounds of a choice."""
    low = _read_bound(reader)
    high = low
    if reader.takes(".."):
        high = _read_bound(reader)
    return (low, high)


def _read_block(reader, deep, level):
    """Returns the tree of a block."""
    place = reader.here()
    declarations = ()
    if reader.takes("declare"):
        declarations = _read_declarations(reader, level)
    statements, handlers = _read_body(reader, deep + 1, level)
    reader.take()
    return ("block", declarations, statements, handlers, place)


COMPOUND = {
    "if": _read_if, "while": _read_while, "loop": _read_loop, "for": _read_for, "case": _read_case,
    "declare": _read_block, "begin": _read_block,
}
