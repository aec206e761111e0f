"""Doing statements."""

from windowada.frames import Raised, checked_word
from windowada.outcome import END, NoInput
from windowada.runexpr import evaluate, locate

# How statements end: the next one follows, the innermost loop is left, or the activation ends.
ONWARD = 0
LEAVE = 1
RETURN = 2


def run_declarations(frame, declarations):
    """Gives the variables of some declarations the values with which they start."""
    marks = frame.subprogram.marks
    for number, expression in declarations:
        mark = marks[number]
        if expression is not None:
            frame.words[number] = checked_word(evaluate(frame, expression), mark, expression[-1])
        elif mark.is_array():
            frame.words[number] = [mark.start_word()] * mark.size()
        else:
            frame.words[number] = mark.start_word()


def run_body(frame, statements, handlers):
    """Does the statements of a body and, if one of them raises an exception, those of its handler."""
    caught_around = frame.caught
    try:
        return run_statements(frame, statements)
    except Raised as error:
        statements_of_handler = _find_handler(handlers, error.number)
        if statements_of_handler is None:
            raise
        frame.caught = (error.number, error.place)
    # This stands outside of the try, so that the handlers do not take what they raise themselves.
    ending = run_statements(frame, statements_of_handler)
    frame.caught = caught_around
    return ending


def _find_handler(handlers, number):
    """Returns the statements of the first handler that takes an exception, None if there is none."""
    for numbers, statements in handlers:
        if numbers is None or number in numbers:
            return statements
    return None


def run_statements(frame, statements):
    """Does some statements and returns how they end."""
    for statement in statements:
        frame.common.fuel.tick()
        action = ACTIONS[statement[0]]
        ending = action(frame, statement)
        if ending != ONWARD:
            return ending
    return ONWARD


def _run_null(_frame, _statement):
    """Does a null statement."""
    return ONWARD


def _run_assign(frame, statement):
    """Does an assignment."""
    _, target, expression = statement
    values, at, mark = locate(frame, target)
    values[at] = checked_word(evaluate(frame, expression), mark, expression[-1])
    return ONWARD


def _run_put(frame, statement):
    """Does a put statement."""
    frame.common.events.put(evaluate(frame, statement[1]))
    return ONWARD


def _run_get(frame, statement):
    """Does a get statement."""
    _, target, place = statement
    values, at, mark = locate(frame, target)
    try:
        word = frame.common.events.get()
    except NoInput:
        raise Raised(END, place) from None
    values[at] = checked_word(word, mark, target[-1])
    return ONWARD


def _run_call(frame, statement):
    """Does a call statement."""
    call = frame.common.call
    call(frame, statement)
    return ONWARD


def _run_if(frame, statement):
    """Does an if statement."""
    _, branches, otherwise = statement
    for condition, statements in branches:
        if evaluate(frame, condition) == 1:
            return run_statements(frame, statements)
    return run_statements(frame, otherwise)


def _run_turn(frame, statements):
    """Does one turn of a loop and returns how it ends."""
    frame.common.fuel.tick()
    return run_statements(frame, statements)


def _run_while(frame, statement):
    """Does a while loop."""
    _, condition, statements = statement
    ending = ONWARD
    while ending == ONWARD and evaluate(frame, condition) == 1:
        ending = _run_turn(frame, statements)
    return RETURN if ending == RETURN else ONWARD


def _run_loop(frame, statement):
    """Does a plain loop."""
    ending = ONWARD
    while ending == ONWARD:
        ending = _run_turn(frame, statement[1])
    return RETURN if ending == RETURN else ONWARD


def _run_for(frame, statement):
    """Does a for loop."""
    _, number, backward, low, high, statements = statement
    first = evaluate(frame, low)
    last = evaluate(frame, high)
    start, stop, step = (last, first - 1, -1) if backward else (first, last + 1, 1)
    for word in range(start, stop, step):
        frame.words[number] = word
        ending = _run_turn(frame, statements)
        if ending != ONWARD:
            return RETURN if ending == RETURN else ONWARD
    return ONWARD


def _run_case(frame, statement):
    """Does a case statement."""
    _, expression, arms, otherwise = statement
    word = evaluate(frame, expression)
    for choices, statements in arms:
        if any([low <= word <= high for low, high in choices]):
            return run_statements(frame, statements)
    return run_statements(frame, otherwise)


def _run_exit(frame, statement):
    """Does an exit statement."""
    condition = statement[1]
    if condition is None or evaluate(frame, condition) == 1:
        return LEAVE
    return ONWARD


def _run_return(frame, statement):
    """Does a return statement."""
    expression = statement[1]
    if expression is not None:
        frame.result = checked_word(evaluate(frame, expression), frame.subprogram.result, expression[-1])
    return RETURN


def _run_raise(frame, statement):
    """Does a raise statement."""
    _, number, place = statement
    if number is None:
        number, place = frame.caught
    raise Raised(number, place)


def _run_block(frame, statement):
    """Does a block."""
    _, declarations, statements, handlers = statement
    run_declarations(frame, declarations)
    return run_body(frame, statements, handlers)


ACTIONS = {
    "null": _run_null, "assign": _run_assign, "put": _run_put, "get": _run_get, "call": _run_call,
    "if": _run_if, "while": _run_while, "loop": _run_loop, "for": _run_for, "case": _run_case,
    "exit": _run_exit, "return": _run_return, "raise": _run_raise, "block": _run_block,
}
