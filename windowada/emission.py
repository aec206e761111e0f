"""From the code of a unit to the instructions of the processor."""

from windowada.code import RAISING
from windowada.listing import BASE, HEAD, LEFT, LINK, RIGHT, ZERO, Listing
from windowada.liveness import live
from windowada.roles import FIRST_IN, FIRST_OUT, NUMBER, PLACE, SAVED, STACK


def list_unit(unit, assignment):
    """Returns the listing of a unit."""
    listing = Listing(unit, assignment)
    _begin(listing)
    for instruction in unit.code:
        listing.addresses.append(listing.here())
        action = ACTIONS[instruction[0]]
        action(listing, instruction)
    for start, stop, entry, number, place in unit.regions:
        listing.spans.append((listing.addresses[start], listing.addresses[stop], listing.here()))
        listing.put_away(number, NUMBER)
        listing.put_away(place, PLACE)
        listing.emit(("jump", entry))
    return listing


def _begin(listing):
    """Adds the start of an activation: the window, the static link, and the words that are 0 at first."""
    unit = listing.unit
    listing.emit(("save", STACK, STACK, ("int", -listing.size_of_frame())))
    listing.emit(("store", LINK, STACK, ("int", SAVED)))
    for cell in range(unit.cells):
        listing.emit(("store", ZERO, STACK, ("int", HEAD + cell)))
    for number in live(unit)[0]:
        if number >= unit.arguments:
            listing.put_away(number, ZERO)


def _reach(listing, hops, target):
    """Adds the loads of static links. Returns the register with the stack pointer that is some of them away."""
    base = STACK
    for _ in range(hops):
        listing.emit(("load", target, base, ("int", SAVED)))
        base = target
    return base


def _list_tick(listing, instruction):
    """Adds a tick."""
    listing.emit(instruction)


def _list_move(listing, instruction):
    """Adds a move."""
    _, number, operand = instruction
    if listing.has_place(number):
        listing.put_away(number, listing.fetch(operand, listing.target_of(number)))


def _list_neg(listing, instruction):
    """Adds a neg."""
    _, number, operand, place = instruction
    source = listing.source(operand, LEFT)
    target = listing.target_of(number)
    listing.note_place(place)
    listing.emit(("sub", target, ZERO, source))
    listing.put_away(number, target)


def _list_abs(listing, instruction):
    """Adds an abs: the word is multiplied by 1, or by -1 if it is less than 0."""
    _, number, operand, place = instruction
    left = listing.fetch(operand, LEFT)
    target = listing.target_of(number)
    listing.emit(("less", RIGHT, left, ("int", 0)))
    listing.emit(("mul", RIGHT, RIGHT, ("int", -2)))
    listing.emit(("add", RIGHT, RIGHT, ("int", 1)))
    listing.note_place(place)
    listing.emit(("mul", target, left, ("reg", RIGHT)))
    listing.put_away(number, target)


def _list_operator(listing, instruction):
    """Adds an operator with two operands that the processor has under the same name."""
    name, number, first, second = instruction[:4]
    left = listing.fetch(first, LEFT)
    right = listing.source(second, RIGHT)
    target = listing.target_of(number)
    if name in RAISING:
        listing.note_place(instruction[-1])
    listing.emit((name, target, left, right))
    listing.put_away(number, target)


def _list_check(listing, instruction):
    """Adds a check: an instruction for each of its bounds."""
    _, operand, low, high, place = instruction
    left = listing.fetch(operand, LEFT)
    for name, bound in (("below", low), ("above", high)):
        right = listing.source(("int", bound), RIGHT)
        listing.note_place(place)
        listing.emit((name, left, right))


def _locate(listing, hops, cell, count, operand):
    """Adds the instructions for the address of a cell. Returns the register and the number that are its parts."""
    base = _reach(listing, hops, BASE)
    kind, offset = operand
    if kind == "int" and 0 <= offset < count:
        return base, ("int", HEAD + cell + offset)
    listing.emit(("add", BASE, base, ("reg", listing.fetch(operand, LEFT))))
    return BASE, ("int", HEAD + cell)


def _list_load(listing, instruction):
    """Adds a load."""
    _, number, hops, cell, count, operand = instruction
    base, offset = _locate(listing, hops, cell, count, operand)
    target = listing.target_of(number)
    listing.emit(("load", target, base, offset))
    listing.put_away(number, target)


def _list_store(listing, instruction):
    """Adds a store."""
    _, hops, cell, count, operand, value = instruction
    base, offset = _locate(listing, hops, cell, count, operand)
    listing.emit(("store", listing.fetch(value, RIGHT), base, offset))


def _list_jump(listing, instruction):
    """Adds a jump."""
    listing.emit(instruction)


def _list_branch(listing, instruction):
    """Adds a branch."""
    _, operand, target = instruction
    listing.emit(("branch", listing.fetch(operand, LEFT), target))


def _list_call(listing, instruction):
    """Adds a call: the arguments, the static link, the call itself, and the results."""
    _, unit, hops, arguments, results, place = instruction
    for at, operand in enumerate(arguments):
        listing.bring(operand, FIRST_OUT + at)
    base = _reach(listing, hops, LINK)
    if base != LINK:
        listing.emit(("add", LINK, base, ("int", 0)))
    listing.note_place(place)
    listing.emit(("call", unit))
    for at, number in enumerate(results):
        listing.put_away(number, FIRST_OUT + at)


def _list_return(listing, instruction):
    """Adds a return. No in is written before all values are read: all but the last one go by way of the outs."""
    values = instruction[1]
    last = len(values) - 1
    for at in range(last):
        listing.bring(values[at], FIRST_OUT + at)
    if values != ():
        listing.bring(values[last], FIRST_IN + last)
    for at in range(last):
        listing.emit(("add", FIRST_IN + at, FIRST_OUT + at, ("int", 0)))
    listing.emit(("restore",))
    listing.emit(("back",))


def _list_raise(listing, instruction):
    """Adds a raise."""
    _, number, place = instruction
    listing.note_place(place)
    listing.emit(("raise", number))


def _list_again(listing, instruction):
    """Adds an again."""
    _, number, place = instruction
    left = listing.fetch(number, LEFT)
    listing.emit(("again", left, listing.source(place, RIGHT)))


def _list_put(listing, instruction):
    """Adds a put."""
    listing.emit(("put", listing.source(instruction[1], LEFT)))


def _list_get(listing, instruction):
    """Adds a get."""
    _, number, place = instruction
    target = listing.target_of(number)
    listing.note_place(place)
    listing.emit(("get", target))
    listing.put_away(number, target)


ACTIONS = {
    "tick": _list_tick, "move": _list_move, "neg": _list_neg, "abs": _list_abs, "add": _list_operator,
    "sub": _list_operator, "mul": _list_operator, "div": _list_operator, "mod": _list_operator,
    "rem": _list_operator, "less": _list_operator, "equal": _list_operator, "check": _list_check,
    "load": _list_load, "store": _list_store, "jump": _list_jump, "branch": _list_branch, "call": _list_call,
    "return": _list_return, "raise": _list_raise, "again": _list_again, "put": _list_put, "get": _list_get,
}
