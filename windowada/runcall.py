"""Calls, and the run of a checked program."""

from windowada.frames import Frame, Raised, Run, checked_word
from windowada.outcome import DEPTH_LIMIT, EXHAUSTED, NORMAL, PROGRAM, STORAGE, Events, Fuel, OutOfFuel
from windowada.runexpr import evaluate, locate
from windowada.runstat import RETURN, run_body, run_declarations


def run_source(program, inputs, *, fuel):
    """Returns the events and the ending of a run of a checked program."""
    events = Events(inputs)
    ending = _run_main(Run(program, events, Fuel(fuel), call_subprogram))
    return events.rows, ending


def _run_main(run):
    """Runs the main program and returns how it ends."""
    try:
        _activate(run, run.program.subprograms[0], None, 1, [])
    except OutOfFuel:
        return EXHAUSTED
    except Raised as error:
        line, column = error.place
        return ("raised", run.program.exceptions[error.number], line, column)
    return NORMAL


def call_subprogram(frame, call):
    """Makes a call, a checked expression or statement, and returns the result of the function."""
    _, number, hops, arguments, place = call
    subprogram = frame.common.program.subprograms[number]
    words = []
    copies = []
    for (mode, mark), argument in zip(subprogram.parameters, arguments):
        at = argument[-1]
        if mode == "in":
            words.append(checked_word(evaluate(frame, argument), mark, at))
        else:
            values, index, target_mark = locate(frame, argument)
            copies.append((len(words), values, index, target_mark, at))
            words.append(mark.start_word() if mode == "out" else checked_word(values[index], mark, at))
    if frame.depth == DEPTH_LIMIT:
        raise Raised(STORAGE, place)
    called = _activate(frame.common, subprogram, frame.outward(hops), frame.depth + 1, words)
    for parameter, values, index, target_mark, at in copies:
        values[index] = checked_word(called.words[parameter], target_mark, at)
    return called.result


def _activate(run, subprogram, link, depth, words):
    """Returns the activation of a subprogram, with the words as its parameters, when it has ended."""
    run.fuel.tick()
    frame = Frame(run, subprogram, link, depth, words + [0] * (len(subprogram.marks) - len(words)))
    run_declarations(frame, subprogram.declarations)
    ending = run_body(frame, subprogram.statements, subprogram.handlers)
    if subprogram.result is not None and ending != RETURN:
        raise Raised(PROGRAM, subprogram.place)
    return frame
