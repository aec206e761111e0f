"""From a text to its image."""

from windowada.assign import assign
from windowada.checkdecl import check
from windowada.declarations import parse
from windowada.improve import improve
from windowada.link import build_image
from windowada.lower import lower


def build(text, *, improved=True):
    """Returns the image of a text."""
    module = lower(check(parse(text)))
    if improved:
        module = improve(module)
    return build_image(module, tuple([assign(unit) for unit in module.units]))
