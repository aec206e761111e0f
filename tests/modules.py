"""Makes well-formed modules of intermediate code from a seed, and short ones from lists of instructions."""

import random

from windowada.code import Module, Unit

NAMES = ("constraint_error", "program_error", "storage_error", "end_error")
PLACES = ((1, 1), (2, 5), (1, 1), (7, 3))
MIN, MAX = -2147483648, 2147483647
ARITHMETIC = ("add", "sub", "mul", "div", "mod", "rem")
WORDS = (0, 0, 1, 1, 2, 3, -1, -2, 5, 9, 77, MAX, MIN, MAX - 1, 65536)


def unit(code, *, parent=-1, arguments=0, results=0, registers=4, cells=0, regions=()):
    """Returns a unit with 4 registers, if nothing else is given."""
    return Unit(parent, arguments, results, registers, cells, tuple(code), tuple(regions))


def module(*units, names=NAMES, places=PLACES):
    """Returns a module with four exceptions and four places, if nothing else is given."""
    return Module(tuple(units), names, places)


def main(*code, **more):
    """Returns a module with one unit: a tick, the given instructions, and a return."""
    return module(unit((("tick",), *code, ("return", ())), **more))


def parts(given):
    """Returns all that a module consists of, as tuples, to compare it with another one."""
    return tuple(unit_parts(part) for part in given.units), given.names, given.places


def unit_parts(given):
    """Returns all that a unit consists of, as a tuple."""
    return (given.parent, given.arguments, given.results, given.registers, given.cells, given.code, given.regions)


def make_module(seed):
    """Returns a module made from a seed."""
    return Maker(random.Random(seed)).module()


class Maker:
    """Makes one module."""

    def __init__(self, rng):
        self.rng = rng
        self.heads = []
        self.names = NAMES + ("a", "b")[:rng.randint(0, 2)]

    def module(self):
        for number in range(self.rng.choice((1, 1, 2, 3, 5))):
            self.heads.append(self.head(number))
        units = [self.unit(number) for number in range(len(self.heads))]
        return Module(tuple(units), self.names, PLACES)

    def head(self, number):
        """Returns parent, arguments, results, registers and cells of a unit."""
        rng = self.rng
        if number == 0:
            return -1, 0, 0, rng.randint(0, 6), rng.randint(0, 3)
        parents = [other for other in range(number) if len(self.chain(other)) <= 3]
        arguments = rng.choice((0, 0, 1, 2, 3))
        registers = min(arguments + rng.randint(0, 5), 7)
        return rng.choice(parents), arguments, min(rng.choice((0, 0, 1, 2)), registers), registers, rng.randint(0, 3)

    def chain(self, number):
        """Returns the numbers of a unit and of those around it."""
        chain = []
        while number >= 0:
            chain.append(number)
            number = self.heads[number][0]
        return chain

    def unit(self, number):
        rng = self.rng
        parent, arguments, results, registers, cells = self.heads[number]
        size = rng.randint(2, rng.choice((6, 15, 30)))
        ticks = [0] + [index for index in range(1, size - 1) if rng.random() < 0.15]
        code = []
        for index in range(size):
            if index in ticks:
                code.append(("tick",))
            else:
                code.append(self.instruction(number, index, size, ticks))
        regions = []
        if registers >= 2:
            for _ in range(rng.choice((0, 1, 2, 4))):
                start = rng.randrange(size - 1)
                stop = rng.randint(start + 1, size - 1)
                regions.append((start, stop, rng.randint(stop, size - 1), *rng.sample(range(registers), 2)))
        return Unit(parent, arguments, results, registers, cells, tuple(code), tuple(regions))

    def word(self):
        return self.rng.choice(WORDS) if self.rng.random() < 0.6 else self.rng.randint(-4, 12)

    def operand(self, number):
        registers = self.heads[number][3]
        if registers and self.rng.random() < 0.7:
            return ("reg", self.rng.randrange(registers))
        return ("int", self.word())

    def place(self):
        return self.rng.randrange(len(PLACES))

    def target(self, index, size, ticks):
        back = [tick for tick in ticks if tick <= index]
        if index == size - 1 or self.rng.random() < 0.3:
            return self.rng.choice(back)
        return self.rng.randint(index + 1, min(size - 1, index + self.rng.choice((1, 2, 6))))

    def instruction(self, number, index, size, ticks):
        """Returns an instruction for an index without a tick."""
        rng = self.rng
        form = rng.choice(
            ["move"] * 4 + ["sign"] * 2 + ["arithmetic"] * 6 + ["compare"] * 3 + ["check"] * 4 + ["load", "store"] * 2
            + ["jump"] + ["branch"] * 5 + ["call"] * 5 + ["return", "raise", "again"] + ["put"] * 4 + ["get"] * 2
        )
        if index == size - 1:
            form = rng.choice(("return", "return", "return", "jump", "raise", "again"))
        made = getattr(self, "make_" + form)(number, index, size, ticks)
        return made if made is not None else ("put", self.operand(number))

    def destination(self, number):
        registers = self.heads[number][3]
        return self.rng.randrange(registers) if registers else None

    def make_move(self, number, *_):
        target = self.destination(number)
        return None if target is None else ("move", target, self.operand(number))

    def make_sign(self, number, *_):
        target = self.destination(number)
        if target is None:
            return None
        return (self.rng.choice(("neg", "abs")), target, self.operand(number), self.place())

    def make_arithmetic(self, number, *_):
        target = self.destination(number)
        if target is None:
            return None
        return (self.rng.choice(ARITHMETIC), target, self.operand(number), self.operand(number), self.place())

    def make_compare(self, number, *_):
        target = self.destination(number)
        if target is None:
            return None
        return (self.rng.choice(("less", "equal")), target, self.operand(number), self.operand(number))

    def make_check(self, number, *_):
        low, high = sorted((self.word(), self.word()))
        return ("check", self.operand(number), low, high, self.place())

    def cells(self, number):
        """Returns hops, first cell and count of some cells, and an operand that chooses one, mostly."""
        chain = self.chain(number)
        hops = self.rng.randrange(len(chain))
        cells = self.heads[chain[hops]][4]
        if cells == 0:
            return None
        cell = self.rng.randrange(cells)
        count = self.rng.randint(1, cells - cell)
        offset = ("int", self.rng.randrange(count))
        return hops, cell, count, self.operand(number) if self.rng.random() < 0.15 else offset

    def make_load(self, number, *_):
        cells = self.cells(number)
        target = self.destination(number)
        return None if cells is None or target is None else ("load", target, *cells)

    def make_store(self, number, *_):
        cells = self.cells(number)
        return None if cells is None else ("store", *cells, self.operand(number))

    def make_jump(self, _, index, size, ticks):
        return ("jump", self.target(index, size, ticks))

    def make_branch(self, number, index, size, ticks):
        return ("branch", self.operand(number), self.target(index, size, ticks))

    def make_call(self, number, *_):
        chain = self.chain(number)
        rows = [(called, chain.index(head[0])) for called, head in enumerate(self.heads) if head[0] in chain]
        rows = [(called, hops) for called, hops in rows if self.heads[called][2] <= self.heads[number][3]]
        if not rows:
            return None
        called, hops = self.rng.choice(rows)
        arguments = tuple(self.operand(number) for _ in range(self.heads[called][1]))
        results = tuple(self.rng.sample(range(self.heads[number][3]), self.heads[called][2]))
        return ("call", called, hops, arguments, results, self.place())

    def make_return(self, number, *_):
        return ("return", tuple(self.operand(number) for _ in range(self.heads[number][2])))

    def make_raise(self, *_):
        return ("raise", self.rng.randrange(len(self.names)), self.place())

    def make_again(self, number, *_):
        if self.rng.random() < 0.4:
            return ("again", self.operand(number), self.operand(number))
        return ("again", ("int", self.rng.randrange(len(self.names))), ("int", self.place()))

    def make_put(self, number, *_):
        return ("put", self.operand(number))

    def make_get(self, number, *_):
        target = self.destination(number)
        return None if target is None else ("get", target, self.place())
