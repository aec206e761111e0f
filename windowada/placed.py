"""The run of a module whose registers stand in places."""

from windowada.assign import INS, LOCALS
from windowada.liveness import live
from windowada.machine import Layout, Machine

# What each place holds when an activation starts.
OLD_WORD = 77


def run_placed(module, assignments, inputs, *, fuel):
    """Returns the events and the ending of a run over the places of some assignments."""
    layouts = [_layout(unit, assignment) for unit, assignment in zip(module.units, assignments)]
    return Machine(module, layouts, inputs, fuel).finish()


def _layout(unit, assignment):
    """Returns the layout in which the words of an activation are its places."""
    indexes = {}
    for number in range(LOCALS):
        indexes[("local", number)] = len(indexes)
    for number in range(INS):
        indexes[("in", number)] = len(indexes)
    for place in assignment:
        # None stands for one more word, which is written by registers without a place and never read.
        indexes.setdefault(place, len(indexes))
    where = [indexes[place] for place in assignment]
    entrances = [indexes[("in", number)] for number in range(unit.arguments)]
    cleared = [where[number] for number in live(unit)[0] if number >= unit.arguments]
    return Layout(where, [OLD_WORD] * len(indexes), entrances, cleared)
