"""The operators over words."""

from windowada.errors import AdaError

MIN = -2147483648
MAX = 2147483647


class Overflow(AdaError):
    """The result of an operator is no word."""


class DivisionByZero(AdaError):
    """The right side of a division is 0."""


def fits(number):
    """Returns True if an integer is a word, otherwise False."""
    return MIN <= number <= MAX


def arithmetic(op, left, right):
    """Returns the word that an operator gives for two words."""
    if op in ("/", "mod", "rem") and right == 0:
        raise DivisionByZero("division by zero")
    return _word(_result(op, left, right))


def negate(word):
    """Returns a word with the other sign."""
    return _word(-word)


def absolute(word):
    """Returns the absolute value of a word."""
    return _word(abs(word))


def compare(op, left, right):
    """Returns True or False for two words."""
    match op:
        case "=":
            return left == right
        case "/=":
            return left != right
        case "<":
            return left < right
        case "<=":
            return left <= right
        case ">":
            return left > right
    return left >= right


def _word(number):
    """Returns the integer if it is a word."""
    if not fits(number):
        raise Overflow("the result is no word")
    return number


def _result(op, left, right):
    """Returns the exact result of an operator; the right side of a division is not 0."""
    match op:
        case "+":
            return left + right
        case "-":
            return left - right
        case "*":
            return left * right
        case "/":
            return _quotient(left, right)
        case "mod":
            return left % right
    return left - right * _quotient(left, right)


def _quotient(left, right):
    """Returns the quotient rounded toward zero."""
    quotient = abs(left) // abs(right)
    return quotient if (left < 0) == (right < 0) else -quotient
