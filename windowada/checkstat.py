"""The rules for the statements that contain no other statements."""

from windowada.errors import Misplaced, WrongKind
from windowada.kinds import BOOLEAN, INTEGER
from windowada.checkexpr import check_call, check_kind, check_target
from windowada.meanings import Signal
from windowada.program import Subprogram


def check_simple(context, statement):
    """Returns the checked form of a statement that contains no other statements."""
    match statement:
        case ("assign", target, expression, _):
            kind, checked = check_target(context, target)
            return ("assign", checked, check_kind(context, expression, kind))
        case ("put", expression, _):
            return ("put", check_kind(context, expression, INTEGER))
        case ("get", target, place):
            return ("get", _check_get_target(context, target), place)
        case ("call", name, arguments, place):
            return _check_call_statement(context, name, arguments, place)
        case ("exit", condition, place):
            return _check_exit(context, condition, place)
        case ("return", result, place):
            return _check_return(context, result, place)
        case ("raise", name, place):
            return _check_raise(context, name, place)
    return ("null",)


def find_exception(context, name, place):
    """Returns the number of an exception."""
    meaning = context.find(name, place)
    if not isinstance(meaning, Signal):
        raise WrongKind(f"{name} is no exception", place)
    return meaning.number


def _check_get_target(context, target):
    """Returns the checked form of the target of a get statement."""
    kind, checked = check_target(context, target)
    if kind != INTEGER:
        raise WrongKind("an input is an integer", target[-1])
    return checked


def _check_call_statement(context, name, arguments, place):
    """Returns the checked form of a call statement."""
    meaning = context.find(name, place)
    if not isinstance(meaning, Subprogram) or meaning.result is not None:
        raise WrongKind(f"{name} is no procedure", place)
    return check_call(context, meaning, arguments, place)


def _check_exit(context, condition, place):
    """Returns the checked form of an exit statement."""
    if not context.in_loop():
        raise Misplaced("exit stands outside of a loop", place)
    if condition is None:
        return ("exit", None)
    return ("exit", check_kind(context, condition, BOOLEAN))


def _check_return(context, result, place):
    """Returns the checked form of a return statement."""
    mark = context.inner().result
    if (result is None) != (mark is None):
        raise Misplaced("a function returns a value, and nothing else does", place)
    if result is None:
        return ("return", None)
    return ("return", check_kind(context, result, mark.kind))


def _check_raise(context, name, place):
    """Returns the checked form of a raise statement."""
    if name is not None:
        return ("raise", find_exception(context, name, place), place)
    if not context.in_handler():
        raise Misplaced("raise without a name stands outside of a handler", place)
    return ("raise", None, place)
