"""The run of a module of intermediate code."""

from windowada.machine import Machine, plain_layout


def run_module(module, inputs, *, fuel):
    """Returns the events and the ending of a run of a well-formed module."""
    return Machine(module, [plain_layout(unit) for unit in module.units], inputs, fuel).finish()
