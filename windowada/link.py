"""The image of a module."""

from windowada.emission import list_unit
from windowada.encode import encode
from windowada.image import Image

# The first unit stands behind the call of it and the halt.
FIRST_ADDRESS = 2

# The memory of a run has room for the frames of all activations and for what is saved of the first window.
FRAMES = 11
ROOM = 32


def build_image(module, assignments):
    """Returns the image of a module whose registers have places."""
    listings = [list_unit(unit, assignment) for unit, assignment in zip(module.units, assignments)]
    starts = _find_starts(listings)
    words = [encode(("call", starts[0])), encode(("halt",))]
    places = {}
    regions = []
    for start, listing in zip(starts, listings):
        words.extend(_words_of(listing, starts))
        for address, place in listing.raising:
            places[start + address] = place
        for first, stop, entry in listing.spans:
            regions.append((start + first, start + stop, start + entry))
    memory = FRAMES * max([listing.size_of_frame() for listing in listings]) + ROOM
    return Image(tuple(words), tuple(starts), places, tuple(regions), module.names, module.places, memory)


def _find_starts(listings):
    """Returns the first address of each unit."""
    starts = []
    address = FIRST_ADDRESS
    for listing in listings:
        starts.append(address)
        address += len(listing.instructions)
    return starts


def _words_of(listing, starts):
    """Returns the words of a unit."""
    return [
        encode(_with_target(listing, starts, address, instruction))
        for address, instruction in enumerate(listing.instructions)
    ]


def _with_target(listing, starts, address, instruction):
    """Returns an instruction with its distance or the address of the called unit."""
    name = instruction[0]
    if name in ("jump", "branch"):
        return instruction[:-1] + (listing.addresses[instruction[-1]] - address,)
    if name == "call":
        return ("call", starts[instruction[1]])
    return instruction
