"""The code of declarations, statements and handlers."""

from windowada.lowerexpr import (
    add_check, count_results, locate, lower_call, lower_expression, read_spot, write_spot,
)
from windowada.outcome import PROGRAM
from windowada.words import MAX


def lower_subprogram(draft):
    """Returns the unit of a subprogram."""
    subprogram = draft.subprogram
    draft.emit(("tick",))
    for number in range(len(subprogram.parameters)):
        _put_into_cell(draft, number)
    _lower_declarations(draft, subprogram.declarations)
    _lower_body(draft, subprogram.statements, subprogram.handlers)
    draft.set_label(draft.end)
    if subprogram.result is None:
        draft.emit(("return", _returned_values(draft)))
    else:
        draft.emit(("raise", PROGRAM, draft.place_number(subprogram.place)))
    return draft.make_unit(count_results(subprogram))


def _put_into_cell(draft, number):
    """Adds the code that stores the register of a variable, if it stands in a cell."""
    cell = draft.own.cells[number]
    if cell is not None:
        draft.emit(("store", 0, cell, 1, ("int", 0), ("reg", draft.own.registers[number])))


def _returned_values(draft):
    """Adds the code that reads the parameters which a procedure gives back, and returns their values."""
    values = []
    for number, (mode, _) in enumerate(draft.subprogram.parameters):
        if mode != "in":
            spot, _ = locate(draft, ("variable", 0, number))
            values.append(read_spot(draft, spot))
    return tuple(values)


def _lower_declarations(draft, declarations):
    """Adds the code of some declarations."""
    for number, expression in declarations:
        mark = draft.subprogram.marks[number]
        if mark.is_array():
            cell = draft.own.cells[number]
            for at in range(mark.size()):
                draft.emit(("store", 0, cell, mark.size(), ("int", at), ("int", mark.start_word())))
        else:
            used = draft.used
            spot, _ = locate(draft, ("variable", 0, number))
            write_spot(draft, spot, _starting_value(draft, expression, mark))
            draft.release(used)


def _starting_value(draft, expression, mark):
    """Adds the code for the value with which a variable starts, and returns the value."""
    if expression is None:
        return ("int", mark.start_word())
    value = lower_expression(draft, expression)
    add_check(draft, value, mark, expression[-1])
    return value


def _lower_body(draft, statements, handlers):
    """Adds the code of the statements and the handlers of a body."""
    start = draft.here()
    _lower_statements(draft, statements)
    if handlers == ():
        return
    stop = draft.here()
    behind = draft.new_label()
    draft.emit(("jump", behind))
    used = draft.used
    number = draft.take()
    place = draft.take()
    # The regions of the bodies in these statements have been added before, so they come first.
    draft.add_region(start, stop, number, place)
    draft.caught.append((("reg", number), ("reg", place)))
    _lower_handlers(draft, handlers, behind)
    draft.caught.pop()
    draft.release(used)
    draft.set_label(behind)


def _lower_handlers(draft, handlers, behind):
    """Adds the code of handlers: the choice of one of them, and then each one."""
    number, place = draft.caught[-1]
    labels = []
    for numbers, _ in handlers:
        label = draft.new_label()
        labels.append(label)
        if numbers is None:
            draft.emit(("jump", label))
        else:
            for handled in numbers:
                _branch_if_equal(draft, number, ("int", handled), label)
    if handlers[-1][0] is not None:
        draft.emit(("again", number, place))
    for label, (_, statements) in zip(labels, handlers):
        draft.set_label(label)
        _lower_statements(draft, statements)
        draft.emit(("jump", behind))


def _branch_if_equal(draft, left, right, label):
    """Adds the code that goes on at a label if two values are equal."""
    target = draft.take()
    draft.emit(("equal", target, left, right))
    draft.emit(("branch", ("reg", target), label))
    draft.release(target)


def _branch_if_less(draft, left, right, label):
    """Adds the code that goes on at a label if the left value is less than the right one."""
    target = draft.take()
    draft.emit(("less", target, left, right))
    draft.emit(("branch", ("reg", target), label))
    draft.release(target)


def _lower_statements(draft, statements):
    """Adds the code of some statements."""
    for statement in statements:
        used = draft.used
        draft.emit(("tick",))
        action = ACTIONS[statement[0]]
        action(draft, statement)
        draft.release(used)


def _lower_null(_draft, _statement):
    """Adds nothing: a null statement is its tick."""


def _lower_assign(draft, statement):
    """Adds the code of an assignment."""
    _, target, expression = statement
    spot, mark = locate(draft, target)
    value = lower_expression(draft, expression)
    add_check(draft, value, mark, expression[-1])
    write_spot(draft, spot, value)


def _lower_put(draft, statement):
    """Adds the code of a put statement."""
    draft.emit(("put", lower_expression(draft, statement[1])))


def _lower_get(draft, statement):
    """Adds the code of a get statement."""
    _, target, place = statement
    spot, mark = locate(draft, target)
    taken = draft.take()
    draft.emit(("get", taken, draft.place_number(place)))
    add_check(draft, ("reg", taken), mark, target[-1])
    write_spot(draft, spot, ("reg", taken))


def _lower_if(draft, statement):
    """Adds the code of an if statement."""
    _, branches, otherwise = statement
    behind = draft.new_label()
    used = draft.used
    for condition, statements in branches:
        chosen = draft.new_label()
        further = draft.new_label()
        draft.emit(("branch", lower_expression(draft, condition), chosen))
        draft.release(used)
        draft.emit(("jump", further))
        draft.set_label(chosen)
        _lower_statements(draft, statements)
        draft.emit(("jump", behind))
        draft.set_label(further)
    _lower_statements(draft, otherwise)
    draft.set_label(behind)


def _lower_turn(draft, turn, statements):
    """Adds the code of one turn of a loop, which begins at the label turn."""
    draft.set_label(turn)
    draft.emit(("tick",))
    _lower_statements(draft, statements)


def _lower_while(draft, statement):
    """Adds the code of a while loop: the condition stands last, so that the way backward leads to a tick."""
    _, condition, statements = statement
    behind = draft.new_label()
    turn = draft.new_label()
    test = draft.new_label()
    draft.emit(("jump", test))
    draft.leaves.append(behind)
    _lower_turn(draft, turn, statements)
    draft.leaves.pop()
    draft.set_label(test)
    draft.emit(("branch", lower_expression(draft, condition), turn))
    draft.set_label(behind)


def _lower_loop(draft, statement):
    """Adds the code of a plain loop."""
    behind = draft.new_label()
    turn = draft.new_label()
    draft.leaves.append(behind)
    _lower_turn(draft, turn, statement[1])
    draft.leaves.pop()
    draft.emit(("jump", turn))
    draft.set_label(behind)


def _lower_for(draft, statement):
    """Adds the code of a for loop. The register of the loop name counts from the first value to the last one."""
    _, number, backward, low, high, statements = statement
    counter = draft.own.registers[number]
    last = draft.take()
    used = draft.used
    behind = draft.new_label()
    turn = draft.new_label()
    low_end, high_end = (last, counter) if backward else (counter, last)
    for end, bound in ((low_end, low), (high_end, high)):
        draft.emit(("move", end, lower_expression(draft, bound)))
        draft.release(used)
    _branch_if_less(draft, ("reg", high_end), ("reg", low_end), behind)
    draft.set_label(turn)
    draft.emit(("tick",))
    _put_into_cell(draft, number)
    draft.leaves.append(behind)
    _lower_statements(draft, statements)
    draft.leaves.pop()
    _branch_if_equal(draft, ("reg", counter), ("reg", last), behind)
    step = "sub" if backward else "add"
    draft.emit((step, counter, ("reg", counter), ("int", 1), draft.place_number(high[-1])))
    draft.emit(("jump", turn))
    draft.set_label(behind)


def _lower_case(draft, statement):
    """Adds the code of a case statement: the choice of an arm, the statements of others, and then each arm."""
    _, expression, arms, otherwise = statement
    used = draft.used
    value = lower_expression(draft, expression)
    behind = draft.new_label()
    labels = []
    for choices, _ in arms:
        label = draft.new_label()
        labels.append(label)
        for low, high in choices:
            _lower_choice(draft, value, low, high, label)
    draft.release(used)
    _lower_statements(draft, otherwise)
    for label, (_, statements) in zip(labels, arms):
        draft.emit(("jump", behind))
        draft.set_label(label)
        _lower_statements(draft, statements)
    draft.set_label(behind)


def _lower_choice(draft, value, low, high, label):
    """Adds the code that goes on at a label if a value lies from low to high."""
    if low == high:
        _branch_if_equal(draft, value, ("int", low), label)
        return
    further = draft.new_label()
    _branch_if_less(draft, value, ("int", low), further)
    if high == MAX:
        draft.emit(("jump", label))
    else:
        _branch_if_less(draft, value, ("int", high + 1), label)
    draft.set_label(further)


def _lower_exit(draft, statement):
    """Adds the code of an exit statement."""
    condition = statement[1]
    if condition is None:
        draft.emit(("jump", draft.leaves[-1]))
    else:
        draft.emit(("branch", lower_expression(draft, condition), draft.leaves[-1]))


def _lower_return(draft, statement):
    """Adds the code of a return statement."""
    expression = statement[1]
    if expression is None:
        draft.emit(("jump", draft.end))
    else:
        value = lower_expression(draft, expression)
        add_check(draft, value, draft.subprogram.result, expression[-1])
        draft.emit(("return", (value,)))


def _lower_raise(draft, statement):
    """Adds the code of a raise statement."""
    _, number, place = statement
    if number is None:
        taken, its_place = draft.caught[-1]
        draft.emit(("again", taken, its_place))
    else:
        draft.emit(("raise", number, draft.place_number(place)))


def _lower_block(draft, statement):
    """Adds the code of a block."""
    _, declarations, statements, handlers = statement
    _lower_declarations(draft, declarations)
    _lower_body(draft, statements, handlers)


ACTIONS = {
    "null": _lower_null, "assign": _lower_assign, "put": _lower_put, "get": _lower_get, "call": lower_call,
    "if": _lower_if, "while": _lower_while, "loop": _lower_loop, "for": _lower_for, "case": _lower_case,
    "exit": _lower_exit, "return": _lower_return, "raise": _lower_raise, "block": _lower_block,
}
