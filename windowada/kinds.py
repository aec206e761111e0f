"""The kinds of expressions and what the operators do with them."""

INTEGER = "integer"
BOOLEAN = "boolean"

ARITHMETIC = ("+", "-", "*", "/", "mod", "rem")
EQUALITY = ("=", "/=")
ORDER = ("<", "<=", ">", ">=")


def unary_kind(operator, operand):
    """Returns the kind of the result of an operator with one operand, None if it does not take this kind."""
    needed = BOOLEAN if operator == "not" else INTEGER
    return needed if operand == needed else None


def binary_kind(operator, left, right):
    """Returns the kind of the result of an operator with two operands, None if it does not take these kinds."""
    if left != right:
        return None
    if operator in EQUALITY:
        return BOOLEAN
    if operator in ARITHMETIC:
        return INTEGER if left == INTEGER else None
    needed = INTEGER if operator in ORDER else BOOLEAN
    return BOOLEAN if left == needed else None
