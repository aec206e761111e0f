"""The trees of expressions."""

from windowada.errors import TooLarge
from windowada.grammar import accept
from windowada.reader import Reader
from windowada.tokens import scan

DEEPEST_EXPRESSION = 6
MOST_BRACKETS = 12

# The operators with two operands and the group of each one. The groups with greater numbers bind closer.
GROUPS = {
    "and": 0, "or": 0, "xor": 0, "and then": 0, "or else": 0,
    "=": 1, "/=": 1, "<": 1, "<=": 1, ">": 1, ">=": 1,
    "+": 2, "-": 2,
    "*": 3, "/": 3, "mod": 3, "rem": 3,
}
UNARY_GROUP = 4
UNARY_OPERATORS = ("-", "abs", "not")


def parse_expression(text):
    """Returns the tree of a text that is one expression."""
    tokens = scan(text)
    accept(tokens, "Expression")
    return read_expression(Reader(tokens))


def depth(expression):
    """Returns the depth of an expression."""
    match expression:
        case ("unary", _, operand, _):
            return depth(operand) + 1
        case ("binary", _, left, right, _):
            return max(depth(left), depth(right)) + 1
        case ("apply", _, arguments, _):
            return max([depth(argument) for argument in arguments]) + 1
    return 1


def read_expression(reader, brackets=0, around=0):
    """Returns the tree of the next expression.

    brackets tells how many brackets that only group are open before it, and around how many operators and
    calls are known to enclose it. Both keep the recursion from going deeper than the bounds allow.
    """
    return _read_group(reader, 0, brackets, around)


def read_arguments(reader, brackets=0, around=0):
    """Returns the trees of the expressions in the next pair of brackets."""
    reader.take()
    arguments = [read_expression(reader, brackets, around)]
    while reader.takes(","):
        arguments.append(read_expression(reader, brackets, around))
    reader.take()
    return tuple(arguments)


def read_target(reader):
    """Returns the tree of the next target."""
    place = reader.here()
    name = reader.take()
    if reader.peek() == "(":
        return bounded(("apply", name, read_arguments(reader), place))
    return ("name", name, place)


def bounded(expression):
    """Returns the expression if it is not too deep."""
    if depth(expression) > DEEPEST_EXPRESSION:
        raise TooLarge("an expression is too deep", expression[-1])
    return expression


def _read_group(reader, group, brackets, around):
    """Returns the tree of operands that are joined by the operators of a group, from left to right."""
    if group == UNARY_GROUP:
        return _read_factor(reader, brackets, around)
    left = _read_group(reader, group + 1, brackets, around)
    while GROUPS.get(reader.peek()) == group:
        place = reader.here()
        operator = _read_operator(reader)
        right = _read_group(reader, group + 1, brackets, around)
        left = bounded(("binary", operator, left, right, place))
    return left


def _read_operator(reader):
    """Returns the next operator with two operands, which may have two words."""
    operator = reader.take()
    if operator == "and" and reader.takes("then"):
        return "and then"
    if operator == "or" and reader.takes("else"):
        return "or else"
    return operator


def _read_factor(reader, brackets, around):
    """Returns the tree of the next factor."""
    place = reader.here()
    if around == DEEPEST_EXPRESSION:
        raise TooLarge("an expression is too deep", place)
    if reader.peek() in UNARY_OPERATORS:
        operator = reader.take()
        operand = _read_factor(reader, brackets, around + 1)
        return bounded(("unary", operator, operand, place))
    if reader.takes("("):
        if brackets == MOST_BRACKETS:
            raise TooLarge("too many brackets are open", place)
        expression = read_expression(reader, brackets + 1, around)
        reader.take()
        return expression
    return _read_primary(reader, brackets, around)


def _read_primary(reader, brackets, around):
    """Returns the tree of the next number, truth value, name, attribute, element or call."""
    place = reader.here()
    kind = reader.peek_kind()
    value = reader.take()
    if kind == "number":
        return ("number", value, place)
    if kind == "word":
        return ("truth", value == "true", place)
    if reader.takes("'"):
        return (reader.take(), value, place)
    if reader.peek() == "(":
        arguments = read_arguments(reader, brackets, around + 1)
        return bounded(("apply", value, arguments, place))
    return ("name", value, place)
