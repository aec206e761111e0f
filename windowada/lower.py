"""The intermediate code of a checked program."""

from windowada.code import Module
from windowada.draft import Draft, Homes, Places
from windowada.lowerstat import lower_subprogram


def lower(program):
    """Returns the module of a checked program."""
    places = Places()
    homes = [Homes(subprogram) for subprogram in program.subprograms]
    units = [lower_subprogram(Draft(program, subprogram, homes, places)) for subprogram in program.subprograms]
    return Module(tuple(units), program.exceptions, places.table())
