"""The rules for expressions, targets and calls."""

from windowada.errors import WrongKind, WrongMode
from windowada.kinds import BOOLEAN, INTEGER, binary_kind, unary_kind
from windowada.meanings import Mark, Variable
from windowada.program import Subprogram


def check_expression(context, expression):
    """Returns the kind and the checked form of an expression."""
    match expression:
        case ("number", value, place):
            return INTEGER, ("number", value, place)
        case ("truth", value, place):
            return BOOLEAN, ("number", int(value), place)
        case ("name", name, place):
            return _check_name(context, name, place)
        case ("apply", name, arguments, place):
            return _check_apply(context, name, arguments, place)
        case ("unary", operator, operand, place):
            return _check_unary(context, operator, operand, place)
        case ("binary", operator, left, right, place):
            return _check_binary(context, operator, left, right, place)
        case (end, name, place):
            low, high = _ends_of(context, name, place)
            return INTEGER, ("number", low if end == "first" else high, place)


def check_kind(context, expression, kind):
    """Returns the checked form of an expression that must have a kind."""
    found, checked = check_expression(context, expression)
    if found != kind:
        raise WrongKind(f"the expression must have the kind {kind}", expression[-1])
    return checked


def check_target(context, target):
    """Returns the kind and the checked form of a target, which may be any name or name with arguments."""
    name = target[1]
    place = target[-1]
    meaning = context.find(name, place)
    if not isinstance(meaning, Variable):
        raise WrongKind(f"{name} cannot be changed", place)
    if target[0] == "apply":
        return _check_element(context, meaning, target[2], place)
    if meaning.mark.is_array():
        raise WrongKind("an array cannot be changed as a whole", place)
    if not meaning.writable:
        raise WrongMode(f"{name} cannot be changed", place)
    return _check_variable(context, meaning, place)


def check_call(context, subprogram, arguments, place):
    """Returns the checked form of a call."""
    if len(arguments) != len(subprogram.parameters):
        raise WrongKind("the count of the arguments is wrong", place)
    checked = []
    for (mode, mark), argument in zip(subprogram.parameters, arguments):
        if mode == "in":
            checked.append(check_kind(context, argument, mark.kind))
        else:
            checked.append(_check_changed_argument(context, argument, mark.kind))
    hops = context.inner().level - subprogram.level + 1
    return ("call", subprogram.number, hops, tuple(checked), place)


def _check_changed_argument(context, argument, kind):
    """Returns the checked form of an argument for a parameter of the mode out or in out."""
    place = argument[-1]
    if argument[0] not in ("name", "apply"):
        raise WrongMode("the argument cannot be changed", place)
    found, checked = check_target(context, argument)
    if found != kind:
        raise WrongKind(f"the argument must have the kind {kind}", place)
    return checked


def _check_variable(context, variable, place):
    """Returns the kind and the checked form of the name of a variable that is no array."""
    return variable.mark.kind, ("variable", context.use(variable), variable.number, place)


def _check_element(context, variable, arguments, place):
    """Returns the kind and the checked form of an element."""
    if not variable.mark.is_array():
        raise WrongKind("only an array has elements", place)
    if len(arguments) != 1:
        raise WrongKind("an element has one index", place)
    hops = context.use(variable)
    index = check_kind(context, arguments[0], INTEGER)
    return variable.mark.kind, ("element", hops, variable.number, index, place)


def _check_name(context, name, place):
    """Returns the kind and the checked form of a name that stands alone."""
    meaning = context.find(name, place)
    if isinstance(meaning, Variable) and not meaning.mark.is_array():
        return _check_variable(context, meaning, place)
    return _check_function(context, meaning, (), place)


def _check_apply(context, name, arguments, place):
    """Returns the kind and the checked form of an element or call."""
    meaning = context.find(name, place)
    if isinstance(meaning, Variable):
        return _check_element(context, meaning, arguments, place)
    return _check_function(context, meaning, arguments, place)


def _check_function(context, meaning, arguments, place):
    """Returns the kind and the checked form of a call of a function."""
    if not isinstance(meaning, Subprogram) or meaning.result is None:
        raise WrongKind("the name has no value", place)
    return meaning.result.kind, check_call(context, meaning, arguments, place)


def _ends_of(context, name, place):
    """Returns the values of the attributes first and last of a name."""
    meaning = context.find(name, place)
    if isinstance(meaning, Variable) and meaning.mark.is_array():
        return meaning.mark.first, meaning.mark.last
    if isinstance(meaning, Mark) and meaning.is_array():
        return meaning.first, meaning.last
    if isinstance(meaning, Mark) and meaning.kind == INTEGER:
        return meaning.low, meaning.high
    raise WrongKind(f"{name} has no attributes", place)


def _check_unary(context, operator, operand, place):
    """Returns the kind and the checked form of an operator with one operand."""
    found, checked = check_expression(context, operand)
    kind = unary_kind(operator, found)
    if kind is None:
        raise WrongKind(f"the operand of {operator} has the wrong kind", operand[-1])
    return kind, ("unary", operator, checked, place)


def _check_binary(context, operator, left, right, place):
    """Returns the kind and the checked form of an operator with two operands."""
    left_kind, checked_left = check_expression(context, left)
    if binary_kind(operator, left_kind, left_kind) is None:
        raise WrongKind(f"the left side of {operator} has the wrong kind", left[-1])
    right_kind, checked_right = check_expression(context, right)
    kind = binary_kind(operator, left_kind, right_kind)
    if kind is None:
        raise WrongKind(f"the right side of {operator} has the wrong kind", right[-1])
    return kind, ("binary", operator, checked_left, checked_right, place)
