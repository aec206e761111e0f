"""Makes images from a seed: routines that call one another, and words without any order."""

import random

from windowada.encode import encode
from windowada.image import Image

NAMES = ("constraint_error", "program_error", "storage_error", "end_error", "own")
POSITIONS = ((1, 1), (2, 5), (7, 3))
OPERATORS = ("add", "sub", "mul", "div", "mod", "rem", "less", "equal")
NUMBERS = (0, 1, 2, 3, -1, 5, 16383, -16384, 7, 100)
# All but the stack pointers and the addresses of calls.
FREE = (1, 2, 3, 4, 7, 8, 9, 10, 13, 16, 17, 18, 23, 24, 25, 26, 29)


def make_image(seed, wild=False):
    """Returns an image. It keeps mostly to the conditions of point [92], unless it is to be a wild one."""
    return Maker(random.Random(seed), wild).image()


class Maker:
    """Makes one image. frames has the size of each routine's frame."""

    def __init__(self, rng, wild):
        self.rng = rng
        self.wild = wild
        self.frames = [rng.choice((16, 17, 20, 30)) for _ in range(rng.randint(1, 4))]

    def image(self):
        rng = self.rng
        # A call and a halt, and then the routines, each with a number of words that is chosen first.
        sizes = [rng.randint(1, 14) + 3 for _ in self.frames]
        starts = [2]
        for size in sizes[:-1]:
            starts.append(starts[-1] + size)
        code = [("call", 2), ("halt",)]
        for number, size in enumerate(sizes):
            code.append(("save", 14, 14, ("int", -self.frames[number])))
            code += [self.instruction(number, at, size - 3, starts) for at in range(size - 3)]
            code += [("restore",), ("back",)]
        words = [encode(one) for one in code]
        if self.wild:
            for _ in range(rng.choice((0, 1, 3))):
                words[rng.randrange(len(words))] = rng.choice((rng.getrandbits(32), rng.randrange(29) << 26, 2 ** 32 - 1))
        places = {at: rng.randrange(len(POSITIONS)) for at in range(len(words))}
        regions = [self.region(len(words)) for _ in range(rng.choice((0, 0, 1, 2, 4)))]
        if self.wild:
            places = {at: place + rng.choice((0, 0, 0, 0, 1, -1)) for at, place in places.items() if rng.random() < 0.9}
        memory = rng.choice((16, 40, 200)) if self.wild else 16 + 60 * max(self.frames)
        return Image(tuple(words), tuple(starts), places, tuple(regions), NAMES[:rng.choice((0, 2, 5))] if self.wild else NAMES, POSITIONS, memory)

    def region(self, size):
        rng = self.rng
        if self.wild:
            return rng.randrange(size), rng.randrange(size), rng.randrange(size + 2)
        start = rng.randrange(2, size - 1)
        return start, rng.randint(start + 1, size), rng.randint(start, size - 1)

    def target(self):
        return self.rng.randrange(32) if self.wild and self.rng.random() < 0.2 else self.rng.choice((*FREE, 0))

    def source(self):
        if self.rng.random() < 0.5:
            return ("int", self.rng.choice(NUMBERS))
        return ("reg", self.rng.randrange(32) if self.wild else self.rng.choice((*FREE, 0, 5, 6, 14, 15, 30, 31)))

    def left(self):
        return self.rng.randrange(32)

    def instruction(self, number, at, size, starts):
        rng = self.rng
        form = rng.choice(["operator"] * 6 + ["call"] * 4 + ["put"] * 3 + ["tick", "get", "get", "memory", "memory", "branch", "branch", "jump"]
                          + ["check", "raise", "again", "high", "low", "tick", "shift"])
        far = rng.randint(-at, size - at) if self.wild else rng.randint(1, size - at)
        if form == "operator":
            return (rng.choice(OPERATORS), self.target(), self.left(), self.source())
        if form == "call":
            return ("call", rng.choice(starts))
        if form == "memory":
            return self.memory(number)
        if form == "branch":
            return ("branch", self.left(), far)
        if form == "check":
            return (rng.choice(("below", "above")), self.left(), self.source())
        if form == "again":
            return ("again", rng.choice((0, 5, self.left())), rng.choice((("int", 1), ("reg", 6), self.source())))
        if form == "shift" and self.wild:
            return rng.choice((("restore",), ("back",), ("save", self.target(), self.left(), self.source()), ("halt",), ("bar", 3), ("setbar", ("int", 1)), ("retry",)))
        return {
            "put": ("put", self.source()), "tick": ("tick",), "get": ("get", self.target()), "jump": ("jump", far), "raise": ("raise", rng.randrange(5)),
            "high": ("high", self.target(), rng.choice((0, 1, -1, 1048575))), "low": ("low", self.target(), self.left(), rng.choice((0, 5, 2047))),
            "shift": ("put", ("reg", 14)),
        }[form]

    def memory(self, number):
        """A load or a store: behind the save area of the frame, or low in the memory; anywhere, if the image is wild."""
        rng = self.rng
        name = rng.choice(("load", "store"))
        if self.wild and rng.random() < 0.5:
            return (name, self.target(), self.left(), self.source())
        if self.frames[number] > 16 and rng.random() < 0.6:
            return (name, self.target(), 14, ("int", rng.randrange(16, self.frames[number])))
        return (name, self.target(), 0, ("int", rng.randrange(12)))
