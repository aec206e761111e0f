"""What tests of images use: the form of an image of a module, assignments that point [75] allows, and runs."""

from tests.refcpu import BAD, Cpu, instruction_of
from tests.test_liveness import naive_live
from windowada.code import can_raise, followers, reads, writes
from windowada.runner import run_module

ONCE = ("tick", "put", "get", "raise", "again", "call")
SAME_NAME = ("add", "sub", "mul", "div", "mod", "rem", "call", "raise", "get")


def steps_for(image, fuel):
    """The count of steps of point [79]."""
    return 60 * (len(image.words) + 60) * (fuel + 2)


def naive_apart(made):
    """The pairs of registers that point [75] does not let share a place."""
    sets = naive_live(made)
    pairs = {(one, other) for row in sets for one in row for other in row}
    for index, instruction in enumerate(made.code):
        for written in writes(instruction):
            pairs |= {(written, other) for target in followers(instruction, index) for other in sets[target]}
    for _, _, entry, number, place in made.regions:
        pairs |= {(one, other) for one in (number, place) for other in sets[entry]}
    pairs |= {(other, one) for one, other in pairs}
    return {(one, other) for one, other in pairs if one != other}


def any_assignment(rng, made, pool):
    """Returns an assignment that point [75] allows: with places of the pool as long as they last, else with slots."""
    apart = naive_apart(made)
    live_at_0 = naive_live(made)[0]
    read = {number for instruction in made.code for number in reads(instruction)}
    given = {number: ("in", number) for number in live_at_0 if number < made.arguments}
    others = [number for number in range(made.registers) if number not in given]
    rng.shuffle(others)
    for number in others:
        taken = {given[other] for other in given if (number, other) in apart}
        free = [place for place in pool if place not in taken]
        if number not in read:
            free.append(None)
        spare = next(("slot", at) for at in range(1000) if ("slot", at) not in taken)
        given[number] = rng.choice(free or [spare])
    return tuple(given.get(number) for number in range(made.registers))


class ImageMixin:
    """Looks at images of modules. It is for a test case."""

    def assert_form(self, image, made, assignments):
        """Looks at all that points [74] to [78] say of an image."""
        instructions = [instruction_of(word) for word in image.words]
        self.assertIs(type(image.words), tuple)
        self.assertNotIn(BAD, instructions)
        self.assertEqual((image.names, image.positions), (made.names, made.places))
        self.assertEqual(len(image.starts), len(made.units))
        self.assertEqual(image.starts[0], 2)
        self.assertEqual(instructions[:2], [("call", 2), ("halt",)])
        self.assertEqual(sum(len(unit.regions) for unit in made.units), len(image.regions))
        ends = (*image.starts[1:], len(image.words))
        frames = []
        regions = list(image.regions)
        many_places = 0
        for unit, assignment, start, end in zip(made.units, assignments, image.starts, ends):
            slots = [place[1] + 1 for place in assignment if place is not None and place[0] == "slot"]
            frames.append(17 + unit.cells + max(slots, default=0))
            self.assertEqual(instructions[start], ("save", 14, 14, ("int", -frames[-1])))
            self.assert_names(unit, instructions[start:end], image.starts)
            self.assert_jumps(instructions, start, end)
            addresses = sorted(address for address in image.places if start <= address < end)
            many_places += len(addresses)
            raising = self.assert_places(unit, addresses, instructions, image.places)
            raising += zip([index for index, part in enumerate(unit.code) if part[0] == "again"],
                           [address for address in range(start, end) if instructions[address][0] == "again"])
            self.assert_regions(unit, regions[:len(unit.regions)], raising, start, end)
            regions = regions[len(unit.regions):]
        self.assertEqual(many_places, len(image.places))
        self.assertEqual(image.memory, 11 * max(frames) + 32)

    def assert_names(self, unit, instructions, starts):
        """Looks at the instructions that stand in the image as in the code."""
        expected = []
        for part in unit.code:
            if part[0] == "return":
                expected += [("restore",), ("back",)]
            elif part[0] in ONCE:
                expected.append(("call", starts[part[1]]) if part[0] == "call" else part)
        found = [part for part in instructions if part[0] in (*ONCE, "restore", "back")]
        self.assertEqual([part[0] for part in found], [part[0] for part in expected])
        for new, old in zip(found, expected):
            if old[0] == "call":
                self.assertEqual(new, old)
            elif old[0] == "raise":
                self.assertEqual(new[1], old[1])
        names = [part[0] for part in instructions]
        self.assertEqual(names.count("save"), 1)
        for name in ("halt", "bar", "setbar", "retry"):
            self.assertNotIn(name, names)

    def assert_jumps(self, instructions, start, end):
        for address in range(start, end):
            if instructions[address][0] in ("jump", "branch"):
                self.assertIn(address + instructions[address][-1], range(start, end))

    def assert_places(self, unit, addresses, instructions, places):
        """Looks at the addresses that can raise. Returns them with the indexes of the code."""
        expected = []
        for index, part in enumerate(unit.code):
            if can_raise(part) and part[0] != "again":
                expected += [(index, part)] * (2 if part[0] == "check" else 1)
        self.assertEqual(len(addresses), len(expected))
        for address, (_, part) in zip(addresses, expected):
            self.assertEqual(places[address], part[-1])
            if part[0] in SAME_NAME:
                self.assertEqual(instructions[address][0], part[0])
        return [(index, address) for (index, _), address in zip(expected, addresses)]

    def assert_regions(self, unit, regions, raising, start, end):
        for (first, last, *_), (low, high, entry) in zip(unit.regions, regions):
            for address in (low, high, entry):
                self.assertIn(address, range(start, end))
            for index, address in raising:
                self.assertEqual(low <= address < high, first <= index < last, (index, address))

    def assert_run(self, image, made, inputs, fuel):
        """Compares a run of an image with that of its module. Returns the result."""
        expected = run_module(made, inputs, fuel=fuel)
        if expected[1] != ("fault",):
            cpu = Cpu(image)
            self.assertEqual(cpu.run(inputs, fuel, steps_for(image, fuel)), expected, (inputs, fuel))
            self.assertTrue(cpu.is_plain)
            self.assertEqual(cpu.depth, len([part for part in cpu.shifts if part == 1]) - len([part for part in cpu.shifts if part == -1]))
        return expected
