"""Which words the registers of a unit can hold at each index of its code."""

from windowada.code import can_raise, followers, writes
from windowada.flow import edges, taken_regions, ways_back
from windowada.outcome import CONSTRAINT, END
from windowada.ranges import ALL, binary_interval, hull, interval_of, unary_interval
from windowada.words import MAX, MIN

OPERATORS = ("less", "equal", "add", "sub", "mul", "div", "mod", "rem")

# The numbers of exceptions and of places.
NUMBERS = (0, 2147483647)

# How often an index where ways meet is looked at before ends of intervals that still move go to MIN or MAX.
PATIENCE = 2


def intervals(unit):
    """Returns for each index None, if it is not reached, or a tuple with an interval for each register."""
    search = Search(unit)
    search.finish()
    return search.states


def state_behind(instruction, state):
    """Returns the intervals behind an instruction, None if no run goes on behind it."""
    name = instruction[0]
    if name == "check":
        return _behind_check(instruction, state)
    if name == "move":
        return _with_interval(state, instruction[1], interval_of(instruction[2], state))
    if name in ("neg", "abs"):
        return _with_interval(state, instruction[1], unary_interval(name, interval_of(instruction[2], state)))
    if name in OPERATORS:
        left = interval_of(instruction[2], state)
        right = interval_of(instruction[3], state)
        return _with_interval(state, instruction[1], binary_interval(name, left, right))
    for number in writes(instruction):
        state = _with_interval(state, number, ALL)
    return state


def ways_onward(instruction, index, state):
    """Returns the indexes at which a run may go on behind an instruction, exceptions left out."""
    if instruction[0] == "branch":
        low, high = interval_of(instruction[1], state)
        if low == 0 and high == 0:
            return (index + 1,)
        if low > 0 or high < 0:
            return (instruction[2],)
    return followers(instruction, index)


def always_holds(check, state):
    """Returns True if a check never raises, otherwise False."""
    low, high = interval_of(check[1], state)
    return check[2] <= low and high <= check[3]


def _behind_check(check, state):
    """Returns the intervals behind a check."""
    _, operand, least, greatest, _ = check
    low, high = interval_of(operand, state)
    if low > greatest or high < least:
        return None
    if operand[0] == "int":
        return state
    return _with_interval(state, operand[1], (max(low, least), min(high, greatest)))


def _with_interval(state, number, interval):
    """Returns a state with another interval for a register, None if there is no interval."""
    if interval is None:
        return None
    if state[number] == interval:
        return state
    return state[:number] + (interval,) + state[number + 1:]


def _at_entry(region, instruction, state):
    """Returns the intervals at the entry of the region that takes the exceptions of an instruction."""
    _, _, _, number_register, place_register = region
    number = place = NUMBERS
    if instruction[0] not in ("call", "again"):
        place = (instruction[-1], instruction[-1])
        number = (CONSTRAINT, CONSTRAINT)
        if instruction[0] == "raise":
            number = (instruction[1], instruction[1])
        elif instruction[0] == "get":
            number = (END, END)
    return _with_interval(_with_interval(state, number_register, number), place_register, place)


def _find_meetings(unit):
    """Returns for each index whether ways meet there.

    Elsewhere the intervals must be exactly those behind the one index ahead. Each circle that a run can enter has
    an index where ways meet.
    """
    meetings = [len(before) != 1 for before in ways_back(edges(unit))]
    meetings[0] = True
    for region in unit.regions:
        meetings[region[2]] = True
    return meetings


def _widened(old, new):
    """Returns a state in which the ends that have moved are the ends of the words."""
    return tuple([
        (low if low == old_low else MIN, high if high == old_high else MAX)
        for (old_low, old_high), (low, high) in zip(old, new)
    ])


class Search:
    """The intervals of a unit that have been found so far.

    visits counts how often each index was looked at, and waiting tells which ones are to be looked at again. The
    first of these is always the next one, so that loops are done before what stands behind them.
    """

    def __init__(self, unit):
        size = len(unit.code)
        self.states = [None] * size
        self._unit = unit
        self._taken = taken_regions(unit)
        self._meetings = _find_meetings(unit)
        self._visits = [0] * size
        self._waiting = [False] * size

    def finish(self):
        """Finds all intervals."""
        unit = self._unit
        self._arrive(0, (ALL,) * unit.arguments + ((0, 0),) * (unit.registers - unit.arguments))
        index = 0
        while index < len(unit.code):
            index = self._look(index) if self._waiting[index] else index + 1

    def _look(self, index):
        """Brings the intervals at an index to those that follow. Returns the first index to look at then."""
        self._waiting[index] = False
        self._visits[index] += 1
        instruction = self._unit.code[index]
        state = self.states[index]
        first = index + 1
        behind = state_behind(instruction, state)
        if behind is not None:
            for target in ways_onward(instruction, index, state):
                if self._arrive(target, behind):
                    first = min(first, target)
        region = self._taken[index]
        if region is not None and can_raise(instruction):
            # An entry stands behind its region, so that there is no need to go back.
            if instruction[0] != "check" or not always_holds(instruction, state):
                self._arrive(region[2], _at_entry(region, instruction, state))
        return first

    def _arrive(self, index, state):
        """Notes that a run may come to an index with a state. Returns True if that was not known."""
        old = self.states[index]
        if state == old:
            return False
        if old is not None and self._meetings[index]:
            state = tuple([hull(one, other) for one, other in zip(old, state)])
            if self._visits[index] >= PATIENCE:
                state = _widened(old, state)
            if state == old:
                return False
        self.states[index] = state
        self._waiting[index] = True
        return True
