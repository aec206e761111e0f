"""Intervals of words, and what instructions make of them.

An interval is a pair (low, high) of words, low at most high. A state is a tuple with an interval for each register.
"""

from windowada.words import MAX, MIN

ALL = (-2147483648, 2147483647)
TRUTH = (0, 1)


def interval_of(operand, state):
    """Returns the interval of an operand."""
    kind, number = operand
    return (number, number) if kind == "int" else state[number]


def hull(one, other):
    """Returns the least interval that contains two intervals."""
    return (min(one[0], other[0]), max(one[1], other[1]))


def unary_interval(name, interval):
    """Returns the interval of the results of neg or abs, None if none of them is a word."""
    low, high = interval
    if name == "abs" and low >= 0:
        return interval
    if name == "neg" or high <= 0:
        return _words_between(-high, -low)
    return _words_between(0, max(-low, high))


def binary_interval(name, left, right):
    """Returns the interval of the results of an operator with two operands, None if none of them is a word."""
    match name:
        case "add":
            return _words_between(left[0] + right[0], left[1] + right[1])
        case "sub":
            return _words_between(left[0] - right[1], left[1] - right[0])
        case "mul":
            products = [one * other for one in left for other in right]
            return _words_between(min(products), max(products))
        case "less":
            return _less(left, right)
        case "equal":
            return _equal(left, right)
        case "div":
            return _quotients(left, right)
    return _remainders(left, right) if name == "rem" else _moduli(right)


def _words_between(low, high):
    """Returns the interval of the words from low to high, None if there is none."""
    if low > MAX or high < MIN:
        return None
    return (max(low, MIN), min(high, MAX))


def _less(left, right):
    """Returns the interval of the results of less."""
    if left[1] < right[0]:
        return (1, 1)
    return (0, 0) if left[0] >= right[1] else TRUTH


def _equal(left, right):
    """Returns the interval of the results of equal."""
    if left[1] < right[0] or right[1] < left[0]:
        return (0, 0)
    return (1, 1) if left == right and left[0] == left[1] else TRUTH


def _divisors(right):
    """Returns the intervals of the numbers below 0 and above 0 in an interval."""
    parts = [(right[0], min(right[1], -1)), (max(right[0], 1), right[1])]
    return [(low, high) for low, high in parts if low <= high]


def _quotients(left, right):
    """Returns the interval of the results of div."""
    found = []
    for part in _divisors(right):
        for dividend in left:
            for divisor in part:
                quotient = abs(dividend) // abs(divisor)
                found.append(quotient if (dividend < 0) == (divisor < 0) else -quotient)
    return _words_between(min(found), max(found)) if found != [] else None


def _remainders(left, right):
    """Returns an interval that contains the results of rem."""
    divisors = _divisors(right)
    if divisors == []:
        return None
    most = max([max(abs(low), abs(high)) for low, high in divisors]) - 1
    return (max(min(left[0], 0), -most), min(max(left[1], 0), most))


def _moduli(right):
    """Returns an interval that contains the results of mod."""
    divisors = _divisors(right)
    if divisors == []:
        return None
    return (min(right[0] + 1, 0), max(right[1] - 1, 0))
