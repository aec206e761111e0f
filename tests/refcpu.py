"""A second way to run the words of an image, straight from the points on the processor, to compare the package with.

It has any number of windows and no trap handlers. The words are read without the package.
"""

NAMES = (
    "halt add sub mul div mod rem less equal high low load store jump branch call save restore back raise again tick put "
    "get below above bar setbar retry"
).split()
MIN, MAX = -2147483648, 2147483647
PLAIN = ("halt", "restore", "back", "tick", "retry")
BAD = ("bad",)


def signed(number, bits):
    """Returns the number from -2 ** (bits - 1) on that has this remainder by 2 ** bits."""
    return number - 2 ** bits if number >= 2 ** (bits - 1) else number


def instruction_of(word):
    """Returns the instruction of a word, form by form as point [73] tells them."""
    top, rest = divmod(word, 2 ** 26)
    if top >= len(NAMES):
        return BAD
    name = NAMES[top]
    if name in PLAIN:
        return (name,) if rest == 0 else BAD
    if name in ("call", "raise"):
        return (name, rest)
    if name == "jump":
        return (name, signed(rest, 26))
    d, below_d = divmod(rest, 2 ** 21)
    if name in ("high", "branch"):
        return (name, d, signed(below_d, 21))
    a, below_a = divmod(below_d, 2 ** 16)
    flag, low = divmod(below_a, 2 ** 15)
    if name in ("get", "bar"):
        return (name, d) if below_d == 0 else BAD
    if name == "low":
        return (name, d, a, low) if flag == 1 and low <= 2047 else BAD
    if flag == 0 and low > 31:
        return BAD
    s = ("int", signed(low, 15)) if flag else ("reg", low)
    if name in ("again", "below", "above"):
        return (name, a, s) if d == 0 else BAD
    if name in ("put", "setbar"):
        return (name, s) if d == 0 and a == 0 else BAD
    return (name, d, a, s)


class Stop(Exception):
    """The run ends."""


class Trouble(Exception):
    """An exception of the program: its number and the number of its place."""


def run_cpu(image, inputs, fuel, steps):
    """Returns the events and the ending."""
    return Cpu(image).run(inputs, fuel, steps)


class Cpu:
    """One run.

    shifts has 1 for each save and -1 for each way back, and used the count of steps. is_plain tells whether the
    run has kept to the conditions of point [92]; once holds the addresses that lay in a save area which was left.
    """

    def __init__(self, image):
        self.image = image
        self.registers = {}
        self.depth = 0
        self.memory = [0] * image.memory
        self.events = []
        self.shifts = []
        self.used = 0
        self.is_plain = True
        self.once = set()
        self.trail = []

    def run(self, inputs, fuel, steps):
        self.inputs = list(inputs)
        self.fuel = fuel
        self.write(14, self.image.memory - 16)
        try:
            at = 0
            while True:
                at = self.step(at, steps)
        except Stop as stop:
            return tuple(self.events), stop.args

    def key(self, number):
        """The outs of a window are the ins of the one below it."""
        if number < 8:
            return number
        return (self.depth + 1, number + 16) if number < 16 else (self.depth, number)

    def read(self, number):
        return self.registers.get(self.key(number), 0)

    def write(self, number, word):
        if number != 0:
            self.registers[self.key(number)] = word

    def value(self, s):
        return s[1] if s[0] == "int" else self.read(s[1])

    def step(self, at, steps):
        """Does the instruction at an address and returns the next address."""
        if self.used == steps:
            raise Stop("stopped")
        if at not in range(len(self.image.words)):
            raise Stop("fault")
        self.used += 1
        self.trail.append(at)
        name, *rest = instruction_of(self.image.words[at])
        try:
            following = getattr(self, "do_" + name, self.do_nothing_known)(at, *rest)
        except Trouble as trouble:
            return self.handle(at, *trouble.args)
        return at + 1 if following is None else following

    def watch(self):
        """Looks at the save areas of the windows that were not left."""
        areas = []
        for depth in range(self.depth + 1):
            start = self.registers.get((depth + 1, 30), 0)
            areas.extend(range(start, start + 16))
        self.areas = set(areas)
        if len(self.areas) < len(areas) or min(areas) < 0 or max(areas) >= len(self.memory):
            self.is_plain = False

    def handle(self, at, number, place):
        """Returns the entry of an exception that stands at an address."""
        if number not in range(len(self.image.names)) or place not in range(len(self.image.positions)):
            raise Stop("fault")
        while True:
            for start, stop, entry in self.image.regions:
                if start <= at < stop:
                    self.write(5, number)
                    self.write(6, place)
                    return entry
            if self.depth == 0:
                raise Stop("raised", self.image.names[number], *self.image.positions[place])
            self.go_up()
            at = self.read(15)

    def go_up(self):
        if self.depth == 0:
            raise Stop("fault")
        start = self.read(14)
        self.once |= set(range(start, start + 16))
        self.depth -= 1
        self.shifts.append(-1)

    def trouble(self, at, number):
        if at not in self.image.places:
            raise Stop("fault")
        raise Trouble(number, self.image.places[at])

    def put_word(self, at, d, number):
        if not MIN <= number <= MAX:
            self.trouble(at, 0)
        self.put_result(d, number)

    def put_result(self, d, word):
        if d in (14, 30):
            self.is_plain = False
        self.write(d, word)

    def cell(self, a, s):
        self.watch()
        at = self.read(a) + self.value(s)
        if at in self.areas:
            self.is_plain = False
        if at not in range(len(self.memory)):
            raise Stop("fault")
        return at

    # The instructions

    def do_nothing_known(self, *_):
        raise Stop("fault")

    def do_halt(self, _):
        raise Stop("normal")

    def do_add(self, at, d, a, s):
        self.put_word(at, d, self.read(a) + self.value(s))

    def do_sub(self, at, d, a, s):
        self.put_word(at, d, self.read(a) - self.value(s))

    def do_mul(self, at, d, a, s):
        self.put_word(at, d, self.read(a) * self.value(s))

    def divided(self, at, a, s):
        """Returns the quotient rounded toward zero, the remainder and the divisor."""
        left, right = self.read(a), self.value(s)
        if right == 0:
            self.trouble(at, 0)
        quotient = abs(left) // abs(right) * (1 if (left < 0) == (right < 0) else -1)
        return quotient, left - right * quotient, right

    def do_div(self, at, d, a, s):
        self.put_word(at, d, self.divided(at, a, s)[0])

    def do_rem(self, at, d, a, s):
        self.put_word(at, d, self.divided(at, a, s)[1])

    def do_mod(self, at, d, a, s):
        _, remainder, right = self.divided(at, a, s)
        if remainder != 0 and (remainder < 0) != (right < 0):
            remainder += right
        self.put_word(at, d, remainder)

    def do_less(self, _, d, a, s):
        self.put_result(d, 1 if self.read(a) < self.value(s) else 0)

    def do_equal(self, _, d, a, s):
        self.put_result(d, 1 if self.read(a) == self.value(s) else 0)

    def do_high(self, _, d, n):
        self.put_result(d, n * 2048)

    def do_low(self, _, d, a, m):
        self.put_result(d, self.read(a) // 2048 * 2048 + m)

    def do_load(self, _, d, a, s):
        at = self.cell(a, s)
        if at in self.once:
            self.is_plain = False
        self.put_result(d, self.memory[at])

    def do_store(self, _, d, a, s):
        at = self.cell(a, s)
        self.once.discard(at)
        self.memory[at] = self.read(d)

    def do_jump(self, at, n):
        return at + n

    def do_branch(self, at, d, n):
        return at + n if self.read(d) else None

    def do_call(self, at, n):
        if self.depth >= 10:
            self.trouble(at, 2)
        self.write(15, at)
        return n

    def do_save(self, _, d, a, s):
        total = self.read(a) + self.value(s)
        if not MIN <= total <= MAX:
            raise Stop("fault")
        self.watch()
        self.depth += 1
        self.shifts.append(1)
        for number in range(8, 24):
            self.write(number, 0)
        if d == 30:
            self.is_plain = False
        self.write(d, total)
        self.watch()
        self.once -= self.areas

    def do_restore(self, _):
        self.go_up()

    def do_back(self, _):
        return self.read(15) + 1

    def do_raise(self, at, n):
        self.trouble(at, n)

    def do_again(self, _, a, s):
        raise Trouble(self.read(a), self.value(s))

    def do_tick(self, _):
        if self.fuel == 0:
            raise Stop("exhausted")
        self.fuel -= 1

    def do_put(self, _, s):
        self.events.append(("put", self.value(s)))

    def do_get(self, at, d):
        if not self.inputs:
            self.trouble(at, 3)
        word = self.inputs.pop(0)
        self.events.append(("get", word))
        self.put_result(d, word)

    def do_below(self, at, a, s):
        if self.read(a) < self.value(s):
            self.trouble(at, 0)

    def do_above(self, at, a, s):
        if self.read(a) > self.value(s):
            self.trouble(at, 0)


def counted(shifts, windows):
    """Returns spills, fills and the greatest depth of a run with some shifts, as point [92] counts them."""
    spills = fills = depth = deepest = 0
    held = 1
    for shift in shifts:
        depth += shift
        deepest = max(deepest, depth)
        if shift == 1:
            if held == windows - 1:
                spills += 1
            else:
                held += 1
        elif held == 1:
            fills += 1
        else:
            held -= 1
    return spills, fills, deepest
