"""The code of expressions, targets and calls.

The value of an expression is an operand: a number, a register of this subprogram's own variables, or a register
that was taken for it. No call changes a register of a variable, so such an operand keeps its value until the
whole statement is done.
"""

from windowada.kinds import ARITHMETIC, BOOLEAN
from windowada.words import MAX, MIN

NAMES_OF_SIGNS = {"+": "add", "-": "sub", "*": "mul", "/": "div", "mod": "mod", "rem": "rem"}
FALSE = ("int", 0)


def lower_expression(draft, expression):
    """Adds the code of an expression and returns its value, an operand."""
    match expression:
        case ("number", word, _):
            return ("int", word)
        case ("unary", operator, operand, place):
            return _lower_unary(draft, operator, operand, place)
        case ("binary", operator, left, right, place):
            if operator in ("and then", "or else"):
                return _lower_short(draft, operator, left, right)
            return _lower_binary(draft, operator, left, right, place)
        case ("call", _, _, _, _):
            return _lower_function(draft, expression)
    used = draft.used
    spot, _ = locate(draft, expression)
    draft.release(used)
    return read_spot(draft, spot)


def locate(draft, target):
    """Adds the code for the index of a target, and returns its spot and its mark.

    A spot is ("reg", number of a register) or ("cell", hops, first cell, count, operand), where the operand
    chooses one of the cells.
    """
    _, hops, number = target[:3]
    owner = draft.outward(hops)
    homes = draft.homes[owner.number]
    mark = owner.marks[number]
    if target[0] == "element":
        offset = _lower_index(draft, target[3], mark)
        return ("cell", hops, homes.cells[number], mark.size(), offset), mark
    if homes.cells[number] is None:
        return ("reg", homes.registers[number]), mark
    return ("cell", hops, homes.cells[number], 1, ("int", 0)), mark


def read_spot(draft, spot):
    """Adds the code that reads a spot, and returns the value."""
    if spot[0] == "reg":
        return spot
    _, hops, cell, many, offset = spot
    target = draft.take()
    draft.emit(("load", target, hops, cell, many, offset))
    return ("reg", target)


def write_spot(draft, spot, value):
    """Adds the code that writes a value to a spot."""
    if spot[0] == "reg":
        draft.emit(("move", spot[1], value))
    else:
        _, hops, cell, many, offset = spot
        draft.emit(("store", hops, cell, many, offset, value))


def add_check(draft, value, mark, place):
    """Adds the check of a value, if there are words outside of the mark's range."""
    if mark.kind != BOOLEAN and (mark.low, mark.high) != (MIN, MAX):
        draft.emit(("check", value, mark.low, mark.high, draft.place_number(place)))


def lower_call(draft, call):
    """Adds the code of a call. Returns the registers of its results."""
    _, number, hops, arguments, place = call
    subprogram = draft.program.subprograms[number]
    used = draft.used
    values = []
    copies = []
    for (mode, mark), argument in zip(subprogram.parameters, arguments):
        at = argument[-1]
        if mode == "in":
            value = lower_expression(draft, argument)
        else:
            spot, target_mark = locate(draft, argument)
            copies.append((spot, target_mark, at))
            value = ("int", mark.start_word()) if mode == "out" else read_spot(draft, spot)
        if mode != "out":
            add_check(draft, value, mark, at)
        values.append(value)
    if subprogram.result is not None:
        # A function copies nothing back, so that nothing of the arguments is needed behind the call.
        draft.release(used)
    results = [draft.take() for _ in range(count_results(subprogram))]
    draft.emit(("call", number, hops, tuple(values), tuple(results), draft.place_number(place)))
    for (spot, target_mark, at), result in zip(copies, results):
        add_check(draft, ("reg", result), target_mark, at)
        write_spot(draft, spot, ("reg", result))
    return results


def count_results(subprogram):
    """Returns how many words the unit of a subprogram returns."""
    if subprogram.result is not None:
        return 1
    return len([mode for mode, _ in subprogram.parameters if mode != "in"])


def _lower_function(draft, call):
    """Adds the code of a call of a function and returns its result."""
    return ("reg", lower_call(draft, call)[0])


def _lower_index(draft, index, mark):
    """Adds the code of an index, and returns the number of the element from 0 on."""
    used = draft.used
    value = lower_expression(draft, index)
    draft.release(used)
    place = draft.place_number(index[-1])
    draft.emit(("check", value, mark.first, mark.last, place))
    # This is done with first = 0 as well: the variable of the index may change before the element is used.
    offset = draft.take()
    draft.emit(("sub", offset, value, ("int", mark.first), place))
    return ("reg", offset)


def _lower_unary(draft, operator, operand, place):
    """Adds the code of an operator with one operand and returns its result."""
    used = draft.used
    value = lower_expression(draft, operand)
    draft.release(used)
    target = draft.take()
    if operator == "not":
        draft.emit(("equal", target, value, FALSE))
    else:
        draft.emit(("neg" if operator == "-" else "abs", target, value, draft.place_number(place)))
    return ("reg", target)


def _lower_short(draft, operator, left, right):
    """Adds the code of an operator that may leave out its right side, and returns its result."""
    target = draft.take()
    used = draft.used
    done = draft.new_label()
    draft.emit(("move", target, lower_expression(draft, left)))
    draft.release(used)
    if operator == "or else":
        draft.emit(("branch", ("reg", target), done))
    else:
        further = draft.new_label()
        draft.emit(("branch", ("reg", target), further))
        draft.emit(("jump", done))
        draft.set_label(further)
    draft.emit(("move", target, lower_expression(draft, right)))
    draft.release(used)
    draft.set_label(done)
    return ("reg", target)


def _lower_binary(draft, operator, left, right, place):
    """Adds the code of an operator that evaluates both sides, and returns its result."""
    used = draft.used
    first = lower_expression(draft, left)
    second = lower_expression(draft, right)
    draft.release(used)
    target = draft.take()
    result = ("reg", target)
    match operator:
        case "=" | "/=" | "xor":
            draft.emit(("equal", target, first, second))
        case "<" | ">=":
            draft.emit(("less", target, first, second))
        case ">" | "<=":
            draft.emit(("less", target, second, first))
        case "and":
            draft.emit(("mul", target, first, second, draft.place_number(place)))
        case "or":
            draft.emit(("add", target, first, second, draft.place_number(place)))
            draft.emit(("less", target, FALSE, result))
    if operator in ARITHMETIC:
        draft.emit((NAMES_OF_SIGNS[operator], target, first, second, draft.place_number(place)))
    elif operator in ("/=", "xor", ">=", "<="):
        draft.emit(("equal", target, result, FALSE))
    return result
