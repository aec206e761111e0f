"""The instructions that a run of a module does, one after another."""

from windowada.machine import Machine, plain_layout


def trace_module(module, inputs, *, fuel, limit):
    """Returns unit, index and registers ahead of each of the first instructions that a run does."""
    machine = Machine(module, [plain_layout(unit) for unit in module.units], inputs, fuel)
    noted = []
    while len(noted) < limit and machine.ending is None:
        activation = machine.current
        noted.append((activation.number, activation.index, tuple(activation.words)))
        machine.step()
    return noted
