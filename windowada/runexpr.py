"""The values of expressions and the variables that targets name."""

from windowada.frames import Raised
from windowada.kinds import ARITHMETIC
from windowada.outcome import CONSTRAINT
from windowada.words import DivisionByZero, Overflow, absolute, arithmetic, compare, negate


def evaluate(frame, expression):
    """Returns the value of an expression, a word."""
    match expression:
        case ("number", word, _):
            return word
        case ("variable", hops, number, _):
            return frame.outward(hops).words[number]
        case ("unary", operator, operand, place):
            return _apply_unary(operator, evaluate(frame, operand), place)
        case ("binary", operator, left, right, place):
            first = evaluate(frame, left)
            if (operator == "and then" and first == 0) or (operator == "or else" and first == 1):
                return first
            return _apply_binary(operator, first, evaluate(frame, right), place)
        case ("element", _, _, _, _):
            values, at, _ = locate(frame, expression)
            return values[at]
    call = frame.common.call
    return call(frame, expression)


def locate(frame, target):
    """Returns the list in which the value of a target stands, its index there, and the target's mark."""
    _, hops, number = target[:3]
    owner = frame.outward(hops)
    mark = owner.subprogram.marks[number]
    if target[0] == "variable":
        return owner.words, number, mark
    index = target[3]
    at = evaluate(frame, index)
    if at < mark.first or at > mark.last:
        raise Raised(CONSTRAINT, index[-1])
    return owner.words[number], at - mark.first, mark


def _apply_unary(operator, word, place):
    """Returns the result of an operator with one operand."""
    if operator == "not":
        return 1 - word
    try:
        return negate(word) if operator == "-" else absolute(word)
    except Overflow:
        raise Raised(CONSTRAINT, place) from None


def _apply_binary(operator, left, right, place):
    """Returns the result of an operator with two operands."""
    if operator in ARITHMETIC:
        try:
            return arithmetic(operator, left, right)
        except (Overflow, DivisionByZero):
            raise Raised(CONSTRAINT, place) from None
    match operator:
        case "and":
            return left * right
        case "or":
            return max(left, right)
        case "xor":
            return int(left != right)
        case "and then" | "or else":
            return right
    return int(compare(operator, left, right))
