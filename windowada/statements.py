"""The trees of the statements that contain no other statements."""

from windowada.expressions import bounded, read_arguments, read_expression, read_target


def read_simple(reader):
    """Returns the tree of the next statement, which contains no other statements."""
    if reader.peek_kind() == "name":
        return _read_assignment_or_call(reader)
    action = SIMPLE[reader.peek()]
    return action(reader)


def _read_assignment_or_call(reader):
    """Returns the tree of a statement that begins with a name."""
    place = reader.here()
    name = reader.take()
    arguments = ()
    if reader.peek() == "(":
        arguments = read_arguments(reader)
    if not reader.takes(":="):
        reader.take()
        return ("call", name, arguments, place)
    target = ("name", name, place)
    if arguments != ():
        target = bounded(("apply", name, arguments, place))
    expression = read_expression(reader)
    reader.take()
    return ("assign", target, expression, place)


def _read_null(reader):
    """Returns the tree of a null statement."""
    place = reader.here()
    reader.skip(2)
    return ("null", place)


def _read_put(reader):
    """Returns the tree of a put statement."""
    place = reader.here()
    reader.skip(2)
    expression = read_expression(reader)
    reader.skip(2)
    return ("put", expression, place)


def _read_get(reader):
    """Returns the tree of a get statement."""
    place = reader.here()
    reader.skip(2)
    target = read_target(reader)
    reader.skip(2)
    return ("get", target, place)


def _read_exit(reader):
    """Returns the tree of an exit statement."""
    place = reader.here()
    reader.take()
    condition = None
    if reader.takes("when"):
        condition = read_expression(reader)
    reader.take()
    return ("exit", condition, place)


def _read_return(reader):
    """Returns the tree of a return statement."""
    place = reader.here()
    reader.take()
    result = None
    if reader.peek() != ";":
        result = read_expression(reader)
    reader.take()
    return ("return", result, place)


def _read_raise(reader):
    """Returns the tree of a raise statement."""
    place = reader.here()
    reader.take()
    name = None
    if reader.peek() != ";":
        name = reader.take()
    reader.take()
    return ("raise", name, place)


SIMPLE = {
    "null": _read_null, "put": _read_put, "get": _read_get,
    "exit": _read_exit, "return": _read_return, "raise": _read_raise,
}
