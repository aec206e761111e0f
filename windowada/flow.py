"""The ways through the code of a unit."""

from windowada.code import can_raise, followers


def edges(unit):
    """Returns for each index the indexes that may follow it, as ascending tuples."""
    ways = []
    for index, (instruction, region) in enumerate(zip(unit.code, taken_regions(unit))):
        onward = followers(instruction, index)
        if region is not None and can_raise(instruction) and region[2] not in onward:
            onward = tuple(sorted([region[2], *onward]))
        ways.append(onward)
    return tuple(ways)


def reached(unit):
    """Returns the indexes that can be reached from index 0, as an ascending tuple."""
    ways = edges(unit)
    found = [False] * len(ways)
    found[0] = True
    pending = [0]
    while pending:
        for index in ways[pending.pop()]:
            if not found[index]:
                found[index] = True
                pending.append(index)
    return tuple([index for index, is_found in enumerate(found) if is_found])


def ways_back(ways):
    """Returns for each index the list of those that it may follow, from what edges gives."""
    back = [[] for _ in ways]
    for index, onward in enumerate(ways):
        for target in onward:
            back[target].append(index)
    return back


def taken_regions(unit):
    """Returns for each index of the code the region that is taken for an exception there, or None."""
    size = len(unit.code)
    taken = [None] * size
    # onward[index] leads toward the first index from there on that has no region so far, so that many regions
    # over the same long code do not go through all of it each time.
    onward = list(range(size + 1))
    for region in unit.regions:
        index = _first_free(onward, region[0])
        while index < region[1]:
            taken[index] = region
            onward[index] = index + 1
            index = _first_free(onward, index)
    return taken


def _first_free(onward, index):
    """Returns the first index from an index on that has no region; ways that were gone become shorter."""
    while onward[index] != index:
        onward[index] = onward[onward[index]]
        index = onward[index]
    return index
