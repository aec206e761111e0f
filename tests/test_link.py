"""Points [74] to [79]: images of modules."""

import random
import unittest

from tests.images import ImageMixin, any_assignment, steps_for
from tests.modules import MAX, MIN, WORDS, main, make_module, module, parts, unit
from tests.programs import make_program
from tests.refcpu import Cpu, instruction_of, run_cpu
from windowada.assign import assign
from windowada.checkdecl import check
from windowada.code import Unit
from windowada.image import Image
from windowada.improve import improve
from windowada.link import build_image
from windowada.lower import lower
from windowada.wellformed import check_module

TICK, END = ("tick",), ("return", ())
R = [("reg", number) for number in range(30)]
I = {number: ("int", number) for number in range(-9, 99)}
L = [("local", number) for number in range(8)]
N = [("in", number) for number in range(6)]
S = [("slot", number) for number in range(12)]
NORMAL = ("normal",)
NONE = (None,) * 4
BIG = (16383, 16384, -16384, -16385, 2048, 65536, 1000000, -1000000, MIN, MAX, MIN + 1, MAX - 1)


def puts(*words):
    return tuple(("put", word) for word in words)


class CallCpu(Cpu):
    """Notes the unit, the static link and the arguments of each call."""

    many = (0, 1, 2, 1)

    def __init__(self, image):
        super().__init__(image)
        self.noted = []

    def do_call(self, at, n):
        number = self.image.starts.index(n)
        self.noted.append([number, self.read(2), *[self.read(8 + argument) for argument in range(self.many[number])]])
        return super().do_call(at, n)


class LinkTest(ImageMixin, unittest.TestCase):

    def look(self, made, assignments, events=None, ending=NORMAL, inputs=()):
        """Looks at the form of an image and at its runs, with each fuel up to one more than a run needs."""
        self.assertIsNone(check_module(made))
        before = parts(made)
        image = build_image(made, tuple(assignments))
        self.assertIs(type(image), Image)
        self.assertEqual(parts(made), before)
        self.assert_form(image, made, assignments)
        fuel = 0
        while self.assert_run(image, made, list(inputs), fuel)[1] == ("exhausted",) and fuel < 60:
            fuel += 1
        self.assert_run(image, made, list(inputs), fuel + 1)
        if events is not None:
            self.assertEqual(run_cpu(image, list(inputs), fuel, steps_for(image, fuel)), (events, ending))
        return image

    def body(self, code, assignment, *words, inputs=(), ending=NORMAL, **more):
        """Looks at what a main program puts out."""
        events = puts(*words) if inputs == () else None
        return self.look(main(*code, **more), [assignment], events, ending, inputs)

    # The form

    def test_smallest_module(self):
        image = self.look(main(), [NONE], ())
        instructions = [instruction_of(word) for word in image.words]
        self.assertEqual(instructions[:3], [("call", 2), ("halt",), ("save", 14, 14, ("int", -17))])
        self.assertEqual(instructions[-2:], [("restore",), ("back",)])
        self.assertEqual((image.starts, image.places, image.regions, image.memory), ((2,), {}, (), 11 * 17 + 32))

    def test_attributes(self):
        made = main(("get", 0, 3), ("put", R[0]))
        image = self.look(made, [(L[0], None, None, None)], inputs=[5])
        self.assertEqual([type(part) for part in (image.words, image.starts, image.places, image.regions, image.names, image.positions, image.memory)],
                         [tuple, tuple, dict, tuple, tuple, tuple, int])
        self.assertEqual(list(image.places.values()), [3])

    def test_names_and_positions(self):
        for names in (made_names("a"), made_names(), made_names("a", "constraint_error", "a")):
            made = module(unit((TICK, ("raise", len(names) - 1, 0))), names=names, places=((9, 8),))
            image = self.look(made, [NONE], (), ("raised", names[-1], 9, 8))
            self.assertEqual((image.names, image.positions), (names, ((9, 8),)))

    def test_units_in_order(self):
        """Each unit is called from the one ahead of it; the memory depends on the largest frame."""
        for place, size in ((S[0], 18), (S[4], 22), (("slot", 999), 1017), (L[3], 17), (None, 17)):
            units = [unit((TICK, ("put", I[number]), ("call", number + 1, 0, (), (), 0), END), parent=number - 1) for number in range(3)]
            units.append(unit((TICK, ("get", 0, 0), *([("put", R[0])] if place else []), END), parent=2, registers=1))
            image = self.look(module(*units), [NONE, NONE, NONE, (place,)], (*puts(0, 1, 2), ("get", 7), *(puts(7) if place else ())), inputs=[7])
            self.assertEqual(image.memory, 11 * size + 32)
            self.assertEqual(list(image.starts), sorted(image.starts))

    def test_frames(self):
        """Cells and slots, with gaps between the slots."""
        for cells, places, size in ((0, NONE, 17), (3, NONE, 20), (60, NONE, 77), (2, (S[0], None, None, None), 20), (2, (S[9], S[3], L[1], N[1]), 29)):
            code = [("move", number, I[number + 5]) for number, place in enumerate(places) if place] + [("put", R[number]) for number, place in enumerate(places) if place]
            image = self.body(code, places, *[number + 5 for number, place in enumerate(places) if place], cells=cells)
            self.assertEqual(instruction_of(image.words[2]), ("save", 14, 14, ("int", -size)))
            self.assertEqual(image.memory, 11 * size + 32)

    def test_words_of_frames(self):
        """The static link at 16, the cells from 17 on, and then the slots; the frame of the caller follows."""
        called = unit((TICK, ("store", 0, 1, 1, I[0], I[70]), ("move", 0, I[71]), ("move", 1, I[72]), ("put", R[0]), ("put", R[1]), ("raise", 1, 0)), parent=0, cells=3)
        start = unit((TICK, ("store", 0, 0, 1, I[0], I[60]), ("move", 0, I[61]), ("call", 1, 0, (), (), 0), ("put", R[0]), END), cells=2, registers=1)
        made = module(start, called)
        image = build_image(made, ((S[4],), (S[0], S[2], None, None)))
        cpu = Cpu(image)
        self.assertEqual(cpu.run([], 9, 999), (puts(71, 72), ("raised", "program_error", 1, 1)))
        size, its_size = 17 + 2 + 5, 17 + 3 + 3
        self.assertEqual(image.memory, 11 * size + 32)
        top = image.memory - 16 - size
        self.assertEqual(cpu.memory[top + 17:top + size], [60, 0, 0, 0, 0, 0, 61])
        below = top - its_size
        self.assertEqual(cpu.memory[below + 16:top], [top, 0, 70, 0, 71, 0, 72])
        self.assertEqual(cpu.memory[below:below + 16] + cpu.memory[top:top + 16], [0] * 32)
        self.assertEqual([word for word in cpu.memory[:below] + cpu.memory[-16:] if word], [])

    def test_how_units_are_called(self):
        """With the arguments in the ins, the static link in register 2, and the address of the call in register 31."""
        inner = unit((TICK, ("put", R[0]), ("branch", R[1], 5), ("sub", 0, R[0], I[1], 0), ("call", 2, 1, (R[0], I[1]), (0,), 1), ("return", (R[0],))),
                     parent=1, arguments=2, results=1, registers=2)
        middle = unit((TICK, ("call", 2, 0, (R[0], I[0]), (0,), 2), ("put", R[0]), ("call", 3, 1, (I[8],), (), 3), END), parent=0, arguments=1, registers=1)
        other = unit((TICK, ("put", R[0]), END), parent=0, arguments=1, registers=1)
        made = module(unit((TICK, ("call", 1, 0, (I[5],), (), 0), END)), middle, inner, other)
        image = self.look(made, [NONE, (N[0],), (N[0], N[1]), (N[0],)], puts(5, 4, 4, 8))
        cpu = CallCpu(image)
        cpu.run([], 99, 9999)
        main_unit, first, second, third, fourth = cpu.noted
        self.assertEqual([noted[0] for noted in cpu.noted], [0, 1, 2, 2, 3])
        self.assertEqual([noted[2:] for noted in cpu.noted[1:]], [[5], [5, 0], [4, 1], [8]])
        frames = [image.memory - 16 - 17 * turn for turn in range(1, 5)]
        self.assertEqual(first[1], frames[0])
        self.assertEqual(second[1], frames[1])
        self.assertEqual(third[1], frames[1])
        self.assertEqual(fourth[1], frames[0])
        self.assertEqual(main_unit[2:], [])

    # Places

    def test_all_places_at_once(self):
        places = (*L, *N, S[0], S[1], ("slot", 999), ("slot", 500))
        code = [("move", number, I[number + 20]) for number in range(18)] + [("put", R[number]) for number in range(18)]
        self.body(code, places, *range(20, 38), registers=18)
        self.body(code, places[::-1], *range(20, 38), registers=18)

    def test_moves_between_places(self):
        for one in (L[0], L[7], N[0], N[5], S[0], S[7]):
            for other in (L[0], L[3], N[5], N[2], S[0], S[4]):
                if one != other:
                    self.body((("move", 0, I[9]), ("move", 1, R[0]), ("put", R[1]), ("put", R[0])), (one, other, None, None), 9, 9)
                self.body((("move", 0, I[9]), ("move", 1, R[0]), ("put", R[1])), (one, other, None, None), 9)

    def test_registers_share_a_place(self):
        """One is not needed any more when the other one is written."""
        for place in (L[2], N[4], S[1]):
            self.body((("move", 0, I[5]), ("put", R[0]), ("move", 1, I[6]), ("put", R[1])), (place, place, None, None), 5, 6)
            for name, word in (("add", 14), ("sub", 0), ("mul", 49), ("div", 1), ("mod", 0), ("less", 0), ("equal", 1)):
                more = () if name in ("less", "equal") else (0,)
                self.body((("move", 0, I[7]), (name, 1, R[0], R[0], *more), ("put", R[1])), (place, place, None, None), word)
            for name in ("neg", "abs"):
                self.body((("move", 0, I[-7]), (name, 1, R[0], 0), ("put", R[1])), (place, place, None, None), 7)
            # Results of one call, of which no more than one is needed.
            called = unit((TICK, ("return", (I[5], I[6], I[7]))), parent=0, results=3)
            for needed, results in ((0, (0, 1, 2)), (1, (2, 0, 1))):
                start = unit((TICK, ("call", 1, 0, (), results, 0), ("put", R[needed]), END))
                others = [L[5], L[5], L[5], None]
                others[needed] = place
                self.look(module(start, called), [tuple(others), NONE], puts((5, 6, 7)[results.index(needed)]))
            # Number and place of a region, neither of which is needed.
            self.body((("raise", 3, 2), END, ("put", I[1])), (place, place, None, None), 1, regions=((1, 2, 3, 0, 1),))

    def test_places_of_registers_that_nothing_reads(self):
        called = unit((TICK, ("return", (I[5], I[6]))), parent=0, results=2)
        code = (
            TICK, ("move", 0, I[9]), ("move", 1, ("int", MAX)), ("move", 1, R[0]), ("get", 1, 0), ("add", 2, I[1], I[2], 0), ("abs", 1, I[-2], 0),
            ("neg", 1, I[2], 0), ("less", 1, I[2], R[0]), ("call", 1, 0, (), (1, 3), 0), ("put", R[0]), ("store", 0, 0, 1, I[0], I[5]),
            ("load", 2, 0, 0, 1, I[0]), ("raise", 1, 1), ("put", R[0]), END,
        )
        made = module(unit(code, cells=1, regions=((13, 14, 14, 1, 2),)), called)
        for rest in ((None, None, None), (L[1], None, L[2]), (S[3], N[5], S[3]), (N[1], N[1], N[1]), (L[1], L[1], None)):
            self.look(made, [(L[0], *rest), NONE], (("get", 4), ("put", 9), ("put", 9)), inputs=[4])

    def test_an_instruction_without_a_place_still_raises(self):
        self.body((("div", 0, I[1], I[0], 3),), NONE, ending=("raised", "constraint_error", 7, 3))
        self.body((("get", 0, 1),), NONE, ending=("raised", "end_error", 2, 5))
        self.body((("neg", 0, ("int", MIN), 1),), NONE, ending=("raised", "constraint_error", 2, 5))
        self.body((("abs", 0, ("int", MIN), 1),), NONE, ending=("raised", "constraint_error", 2, 5))

    def test_an_instruction_that_raises_writes_nothing(self):
        for place in (L[0], N[3], S[2]):
            for wrong in (
                ("div", 0, R[0], I[0], 0), ("add", 0, R[0], ("int", MAX), 0), ("sub", 0, ("int", MIN), R[0], 0), ("mul", 0, R[0], ("int", MAX), 0),
                ("mod", 0, R[0], I[0], 0), ("rem", 0, R[0], I[0], 0), ("neg", 0, ("int", MIN), 0), ("abs", 0, ("int", MIN), 0), ("get", 0, 0),
                ("check", R[0], 6, 9, 0), ("check", R[0], 0, 4, 0),
            ):
                self.body((("move", 0, I[5]), wrong, END, ("put", R[0])), (place, None, None, None), 5, regions=((2, 3, 4, 1, 2),))

    # Operands

    def test_words_of_any_size(self):
        for word in BIG:
            for place in (L[0], N[5], S[1]):
                given = ("int", word)
                places = (place, L[1], None, None)
                self.body((("move", 0, given), ("put", R[0]), ("put", given), ("equal", 1, R[0], given), ("put", R[1])), places, word, word, 1)
                self.body((("move", 0, I[7]), ("less", 1, given, R[0]), ("put", R[1]), ("less", 1, R[0], given), ("put", R[1])), places, int(word < 7), int(7 < word))
                self.body((("sub", 0, given, given, 0), ("put", R[0]), ("rem", 0, given, ("int", 1000), 0), ("put", R[0])), places, 0,
                          abs(word) % 1000 * (1 if word > 0 else -1))
                self.body((("store", 0, 0, 1, I[0], given), ("load", 0, 0, 0, 1, I[0]), ("put", R[0])), places, word, cells=1)
                self.body((("branch", given, 3), ("put", I[1]), ("put", I[2])), places, 2)
                self.body((("neg", 0, given, 0), ("put", R[0])) if word != MIN else (), places, *([-word] if word != MIN else []))
                self.body((("abs", 0, given, 0), ("put", R[0])) if word != MIN else (), places, *([abs(word)] if word != MIN else []))

    def test_zero_as_operand(self):
        for place in (L[0], N[5], S[1]):
            code = (("move", 0, I[0]), ("put", R[0]), ("put", I[0]), ("add", 0, I[0], I[0], 0), ("put", R[0]), ("equal", 0, I[0], I[0]), ("put", R[0]),
                    ("branch", I[0], 9), ("put", I[4]), ("put", I[5]))
            self.body(code, (place, None, None, None), 0, 0, 0, 1, 4, 5)

    def test_abs_and_neg(self):
        for place in (L[0], N[5], S[1]):
            for other in (L[1], S[0], place):
                for word in (0, 1, -1, 5, -5, MAX, -MAX):
                    code = (("move", 0, ("int", word)), ("abs", 1, R[0], 0), ("put", R[1]), ("move", 0, ("int", word)), ("neg", 1, R[0], 0), ("put", R[1]))
                    self.body(code, (place, other, None, None), abs(word), -word)
                for name in ("neg", "abs"):
                    self.body((("move", 0, ("int", MIN)), (name, 1, R[0], 3), ("put", R[1])), (place, other, None, None), ending=("raised", "constraint_error", 7, 3))

    def test_checks(self):
        """Of numbers and of registers, with all bounds."""
        bounds = (MIN, MIN + 1, -16385, -16384, -1, 0, 1, 5, 16383, 16384, MAX - 1, MAX)
        for low in bounds:
            for high in bounds:
                if low <= high:
                    for word in {low, high, 5, max(low - 1, MIN), min(high + 1, MAX)}:
                        right = low <= word <= high
                        expected = (puts(word), NORMAL) if right else ((), ("raised", "constraint_error", 2, 5))
                        made = main(("check", ("int", word), low, high, 1), ("put", ("int", word)))
                        self.one_run(made, [NONE], expected)
                        made = main(("move", 0, ("int", word)), ("check", R[0], low, high, 1), ("put", R[0]))
                        self.one_run(made, [((L[1], S[0], N[2])[word % 3], None, None, None)], expected)

    def one_run(self, made, assignments, expected):
        image = build_image(made, tuple(assignments))
        self.assert_form(image, made, assignments)
        self.assertEqual(run_cpu(image, [], 9, steps_for(image, 9)), expected)

    # Calls

    def test_arguments_and_results_in_any_order(self):
        rng = random.Random(5)
        for many in range(7):
            for _ in range(12):
                self.pass_words(rng, many)

    def pass_words(self, rng, many):
        """The called unit puts out its arguments and gives them back in another order; the caller puts them out."""
        order = rng.sample(range(many), many)
        given = [rng.choice(order + [None]) if order else None for _ in range(many)]
        values = tuple(R[at] if at is not None else ("int", rng.choice(BIG)) for at in given)
        called = unit((TICK, *[("put", R[at]) for at in range(many)], ("return", values)), parent=0, arguments=many, results=many, registers=6)
        words = [rng.choice((-5, 7, 70000, MIN)) for _ in range(many)]
        results = rng.sample(range(8), many)
        code = [("move", at, ("int", word)) for at, word in enumerate(words)]
        passed = tuple(R[at] for at in order)
        start = unit((TICK, *code, ("call", 1, 0, passed, tuple(results), 0), *[("put", R[number]) for number in results], END), registers=8)
        pool = rng.sample([*L, *N, *S[:3], S[9]], 8)
        main_places = tuple(pool[number] if number < many or number in results else None for number in range(8))
        its_places = tuple(N[number] if number < many else None for number in range(6))
        arguments = [words[at] for at in order]
        returned = [arguments[at] if at is not None else values[turn][1] for turn, at in enumerate(given)]
        self.look(module(start, called), [main_places, its_places], puts(*arguments, *returned))

    def test_returned_values_come_from_all_places(self):
        """The ins among them would be overwritten by values before they are read, one after another."""
        for values in ((1, 0), (0, 1), (1, 2, 0), (2, 0, 1), (5, 4, 3, 2, 1, 0), (1, 2, 3, 4, 5, 0), (0, 0, 0, 0, 0, 0), (5, 0, 1, 2, 3, 4), (3, 3, 0, 0, 1, 1)):
            many = len(values)
            for kind in (N, L, S, (N[0], L[0], S[0], N[3], S[2], N[1])):
                code = [("move", number, I[number + 10]) for number in range(6)]
                called = unit((TICK, *code, ("return", tuple(R[number] for number in values))), parent=0, results=many, registers=6)
                start = unit((TICK, ("call", 1, 0, (), tuple(range(many)), 0), *[("put", R[number]) for number in range(many)], END), registers=6)
                read = tuple(kind[number] if number in values else None for number in range(6))
                main_places = tuple(N[5 - number] if number < many else None for number in range(6))
                self.look(module(start, called), [main_places, read], puts(*[number + 10 for number in values]))

    def test_arguments_that_are_not_read_at_once(self):
        """An argument that is not live at index 0 needs no place, and may have any."""
        for places in ((None, N[1], None, None), (L[3], N[1], None, None), (S[3], N[1], None, None), (N[5], N[1], None, None), (N[0], N[1], None, None)):
            body = (("get", 0, 0), ("put", R[0])) if places[0] else ()
            called = unit((TICK, ("put", R[1]), *body, END), parent=0, arguments=2)
            start = unit((TICK, ("call", 1, 0, (I[5], I[6]), (), 0), END))
            events = (("put", 6), ("get", 8), ("put", 8)) if places[0] else puts(6)
            self.look(module(start, called), [NONE, places], events, inputs=[8])

    def test_registers_that_are_live_at_the_start(self):
        """They are 0 in each activation, whatever stood there before."""
        called = unit((TICK, ("put", R[1]), ("put", R[2]), ("move", 1, I[9]), ("move", 2, I[8]), ("put", R[1]), ("put", R[2]), END), parent=0, arguments=1)
        start = unit((TICK, ("call", 1, 0, (I[5],), (), 0), ("call", 1, 0, (I[5],), (), 0), END))
        for one in (L[0], N[0], N[1], S[0]):
            for other in (L[1], N[3], N[5], S[4]):
                self.look(module(start, called), [NONE, (None, one, other, None)], puts(0, 0, 9, 8, 0, 0, 9, 8))

    def test_cells_are_0_at_the_start(self):
        """Also where a frame stood before that was larger."""
        cells = [("load", 0, 0, cell, 1, I[0]) for cell in range(3)]
        small = unit((TICK, *[part for load in cells for part in (load, ("put", R[0]))], END), parent=0, cells=3, registers=1)
        code = [("store", 0, cell, 1, I[0], ("int", cell + 100)) for cell in range(60)]
        large = unit((TICK, *code, ("put", I[1]), END), parent=0, cells=60)
        start = unit((TICK, ("call", 1, 0, (), (), 0), ("call", 2, 0, (), (), 0), ("call", 1, 0, (), (), 0), ("call", 2, 0, (), (), 0), END))
        self.look(module(start, small, large), [NONE, (L[0],), NONE], puts(0, 0, 0, 1, 0, 0, 0, 1))

    def test_each_activation_has_its_own_places(self):
        code = (TICK, ("move", 1, R[0]), ("equal", 2, R[0], I[0]), ("branch", R[2], 6), ("sub", 3, R[0], I[1], 0), ("call", 1, 1, (R[3],), (), 0),
                ("put", R[1]), END)
        for first in (3, 8):
            made = module(unit((TICK, ("call", 1, 0, (I[first],), (), 0), END)), unit(code, parent=0, arguments=1))
            for places in ((N[0], L[0], L[1], L[2]), (N[0], S[0], S[1], S[2]), (N[0], N[1], N[2], N[3]), (N[0], L[0], L[1], N[0])):
                self.look(made, [NONE, places], puts(*range(first + 1)))

    def test_depth(self):
        """The call in the activation of depth 10 raises storage_error at its place."""
        code = (TICK, ("put", R[0]), ("add", 1, R[0], I[1], 0), ("call", 1, 1, (R[1],), (), 1), END)
        start = unit((TICK, ("call", 1, 0, (I[2],), (), 0), END))
        for place in (L[0], S[3]):
            self.look(module(start, unit(code, parent=0, arguments=1)), [NONE, (N[0], place, None, None)], puts(*range(2, 11)), ("raised", "storage_error", 2, 5))

    # Cells

    def nested(self, code, *, hops, place, offset):
        """A unit under others, which have 2, 3, 4 .. cells with words of their own, calls one that does the code."""
        units = []
        for level in range(hops):
            stores = [("store", 0, cell, 1, I[0], ("int", 100 * level + cell)) for cell in range(level + 2)]
            units.append(unit((TICK, *stores, ("call", level + 1, 0, (), (), 0), *self.read_cells(level + 2), END), parent=level - 1, cells=level + 2, registers=1))
        units.append(unit((TICK, *code, END), parent=hops - 1, cells=2))
        assignments = [(L[0],)] * hops + [(place, offset, None, None)]
        return module(*units), assignments

    def read_cells(self, many):
        return [part for cell in range(many) for part in (("load", 0, 0, cell, 1, I[0]), ("put", R[0]))]

    def test_cells_of_units_around(self):
        for hops in (1, 2, 3):
            for place, offset in ((L[0], L[1]), (S[0], S[1]), (N[0], S[3])):
                for away in range(1, hops + 1):
                    level = hops - away
                    for cell in range(level + 2):
                        load = (("load", 0, away, cell, 1, I[0]), ("put", R[0]))
                        store = (("store", away, cell, 1, I[0], ("int", 70000 + away)),)
                        made, assignments = self.nested((*load, *store, *load), hops=hops, place=place, offset=None)
                        self.one_image(made, assignments, (100 * level + cell, 70000 + away))

    def one_image(self, made, assignments, first):
        """Looks at an image, and at the first words that are put out."""
        image = self.look(made, assignments)
        self.assertEqual(run_cpu(image, [], 99, steps_for(image, 99))[0][:len(first)], puts(*first))

    def test_elements(self):
        """Several cells, with a word or a register that chooses one of them."""
        for hops in (1, 2, 3):
            for place, at in ((L[0], L[1]), (S[0], S[1]), (N[3], N[4])):
                count = hops + 1
                for element in range(count):
                    load = (("move", 1, I[element]), ("load", 0, 1, 0, count, R[1]), ("put", R[0]), ("load", 0, 1, 0, count, I[element]), ("put", R[0]))
                    store = (("move", 1, I[element]), ("store", 1, 0, count, R[1], R[1]), ("load", 0, 1, element, 1, I[0]), ("put", R[0]),
                             ("store", 1, 0, count, I[element], ("int", MIN)), ("load", 0, 1, element, 1, I[0]), ("put", R[0]))
                    made, assignments = self.nested((*load, *store), hops=hops, place=place, offset=at)
                    word = 100 * (hops - 1) + element
                    self.one_image(made, assignments, (word, word, element, MIN))

    def test_element_in_the_place_of_the_result(self):
        for place in (L[0], N[2], S[2]):
            code = (("store", 0, 2, 1, I[0], I[55]), ("move", 0, I[1]), ("load", 0, 0, 1, 3, R[0]), ("put", R[0]))
            self.body(code, (place, None, None, None), 55, cells=4)

    def test_units_beside_one_another(self):
        """The static link is that of the unit around the called one, not that of the caller."""
        one = unit((TICK, ("store", 0, 0, 1, I[0], I[7]), ("call", 2, 1, (), (), 0), END), parent=0, cells=1)
        other = unit((TICK, ("load", 0, 1, 0, 1, I[0]), ("put", R[0]), ("store", 0, 0, 1, I[0], I[8]), ("call", 3, 0, (), (), 0), END), parent=0, cells=1)
        inner = unit((TICK, ("load", 0, 2, 0, 1, I[0]), ("put", R[0]), ("load", 0, 1, 0, 1, I[0]), ("put", R[0]), ("branch", I[0], 0), ("call", 4, 2, (), (), 0), END), parent=2)
        last = unit((TICK, ("load", 0, 1, 0, 1, I[0]), ("put", R[0]), END), parent=0, registers=1)
        start = unit((TICK, ("store", 0, 0, 1, I[0], I[6]), ("call", 1, 0, (), (), 0), END), cells=1)
        self.look(module(start, one, other, inner, last), [NONE, NONE, (L[0], None, None, None), (L[0], None, None, None), (S[0],)], puts(6, 6, 8, 6))

    # Jumps and regions

    def test_jumps_and_branches_in_both_directions(self):
        code = (
            TICK, ("get", 0, 0), ("jump", 6), TICK, ("put", R[0]), ("sub", 0, R[0], I[1], 0), ("branch", R[0], 3), ("put", I[50]), ("jump", 10),
            TICK, ("put", I[51]), ("branch", I[0], 9), ("branch", I[-3], 14), ("put", I[52]), END, TICK, ("jump", 15),
        )
        for place in (L[0], N[0], S[0]):
            for word in (0, 1, 3, 5):
                self.look(module(unit(code)), [(place, None, None, None)], inputs=[word])
        image = self.look(module(unit(code)), [(L[0], None, None, None)], (("get", 3), *puts(3, 2, 1, 50, 51)), inputs=[3])
        self.assertGreater(len(image.words), len(code))

    def test_a_loop_without_an_end(self):
        self.look(module(unit((TICK, ("put", I[1]), ("jump", 0)))), [NONE])
        self.look(module(unit((TICK, ("jump", 0)))), [NONE])

    def test_jumps_to_instructions_that_become_none(self):
        code = (("jump", 3), ("put", I[1]), ("move", 0, I[5]), ("move", 1, R[2]), ("put", I[2]))
        self.body(code, (None, None, S[0], None), 2)
        code = (("branch", I[1], 4), ("put", I[1]), ("raise", 0, 0), ("move", 0, I[5]), ("move", 0, I[6]), ("put", I[2]))
        self.body(code, NONE, 2, regions=((4, 5, 6, 1, 2), (3, 4, 5, 1, 2)))

    def test_numbers_of_regions(self):
        """Number and place of the exception come to their registers, wherever these stand."""
        code = (("raise", 3, 2), END, ("put", R[0]), ("put", R[1]))
        for one in (L[0], N[5], S[0], None):
            for other in (L[1], N[0], S[5], None):
                body = [part for part, place in zip(code[2:], (one, other)) if place is not None]
                words = [word for word, place in zip((3, 2), (one, other)) if place is not None]
                self.body((*code[:2], *body, ("put", I[9])), (one, other, None, None), *words, 9, regions=((1, 2, 3, 0, 1),))

    def test_regions_in_one_another_and_crossing(self):
        raises = (("raise", 0, 0), ("raise", 1, 1), ("raise", 2, 2), ("raise", 3, 3))
        for start in range(1, 5):
            for regions in (
                ((2, 3, 7, 0, 1), (1, 4, 5, 0, 1)), ((1, 4, 5, 0, 1), (2, 3, 7, 0, 1)), ((1, 3, 5, 0, 1), (2, 5, 7, 0, 1)), ((2, 5, 7, 0, 1), (1, 3, 5, 0, 1)),
                ((1, 2, 5, 0, 1), (2, 3, 5, 1, 0), (3, 4, 5, 0, 1), (4, 5, 7, 1, 2)), ((1, 5, 5, 0, 1), (1, 5, 7, 0, 1)), (),
            ):
                code = (TICK, *raises[:start - 1], *raises[start - 1:], ("put", I[10]), END, ("put", R[0]), ("put", R[1]), END)
                code = (code[0], *[part if at == start else ("put", I[at]) for at, part in enumerate(code[1:5], 1)], *code[5:])
                self.look(module(unit(code, regions=regions)), [(L[0], S[1], L[2], None)])

    def test_an_entry_directly_behind_its_region(self):
        self.body((("div", 0, I[1], I[0], 2), ("put", R[1]), ("put", R[2])), (None, L[1], S[2], None), 0, 2, regions=((1, 2, 2, 1, 2),))

    def test_a_region_takes_what_a_call_raises(self):
        called = unit((TICK, ("put", R[0]), ("branch", R[0], 5), ("raise", 1, 1), END, ("raise", 3, 2), END), parent=0, arguments=1)
        code = (TICK, ("call", 1, 0, (I[0],), (), 0), END, ("put", R[0]), ("put", R[1]), ("call", 1, 0, (I[1],), (), 3), END, ("put", R[0]), ("put", R[1]), END)
        for places in ((L[0], L[1]), (S[0], N[1]), (N[0], S[4])):
            made = module(unit(code, regions=((1, 2, 3, 0, 1), (4, 6, 7, 1, 0))), called)
            self.look(made, [(*places, None, None), (N[0], None, None, None)], puts(0, 1, 1, 1, 2, 3))

    def test_again(self):
        code = (("raise", 3, 2), END, ("put", I[1]), ("again", R[0], R[1]))
        for one, other in ((L[0], L[1]), (S[0], S[1]), (N[0], S[1])):
            self.body(code, (one, other, None, None), 1, ending=("raised", "end_error", 1, 1), regions=((1, 2, 3, 0, 1),))
            self.body((*code, ("put", R[0])), (one, other, None, None), 1, 3, regions=((1, 2, 3, 0, 1), (4, 5, 5, 0, 1)))
        self.body((("again", I[2], I[3]),), NONE, ending=("raised", "storage_error", 7, 3))
        self.body((("again", I[0], I[0]),), NONE, ending=("raised", "constraint_error", 1, 1))

    def test_numbers_of_places_that_are_large(self):
        places = tuple((number // 9 + 1, number % 9 + 1) for number in range(20000))
        for number in (0, 16383, 16384, 19999):
            for code in ((("again", I[1], ("int", number)),), (("raise", 1, number),)):
                made = module(unit((TICK, *code)), places=places)
                self.look(made, [NONE], (), ("raised", "program_error", *places[number]))
            made = module(unit((TICK, ("raise", 1, number), ("put", R[1]), ("again", R[0], R[1])), regions=((1, 2, 2, 0, 1),)), places=places)
            self.look(made, [(L[0], S[0], None, None)], puts(number), ("raised", "program_error", *places[number]))

    # Large units

    def test_large_units(self):
        """As many instructions, registers and regions as point [75] allows."""
        rng = random.Random(2)
        registers = 200
        code = [TICK]
        while len(code) < 19998:
            code.append(rng.choice((("move", rng.randrange(registers), ("int", rng.choice(BIG))), ("check", R[5], MIN, MAX, 0), ("put", ("reg", rng.randrange(registers))))))
        code += [("jump", 0), END]
        code[10000] = ("jump", 19998)
        code[19000] = TICK
        code[5] = ("branch", R[3], 19999)
        regions = [(start, start + 5, 19000 + start // 200, 0, 1) for start in range(0, 19000, 19)]
        made = module(Unit(-1, 0, 0, registers, 60, tuple(code), tuple(regions)))
        self.assertIsNone(check_module(made))
        assignment = tuple(("slot", number * 5) for number in range(registers))
        image = build_image(made, (assignment,))
        self.assert_form(image, made, [assignment])
        self.assertEqual(image.memory, 11 * (17 + 60 + 996) + 32)
        for fuel in (0, 1, 3):
            self.assert_run(image, made, [], fuel)

    # All of it

    def test_made_modules(self):
        """With places of assign, and with any places that point [75] allows."""
        rng = random.Random(11)
        endings = set()
        for seed in range(500):
            made = make_module(seed)
            pools = ([*L, *N], [L[0], N[0], S[0], ("slot", 999)], [N[0], N[1], N[2], L[7]], [])
            rows = [tuple(assign(part) for part in made.units)]
            rows += [tuple(any_assignment(rng, part, rng.choice(pools)) for part in made.units) for _ in range(2)]
            for assignments in rows:
                image = build_image(made, assignments)
                self.assert_form(image, made, assignments)
                for fuel in (0, 1, 2, 3, 5, 9, 20, 40):
                    inputs = [rng.choice(WORDS) for _ in range(rng.randint(0, 5))]
                    endings.add(self.assert_run(image, made, inputs, fuel)[1][0])
        self.assertEqual(endings, {"normal", "raised", "exhausted", "fault"})

    def test_lowered_programs(self):
        for seed in range(60):
            made = lower(check(make_program(seed)))
            for given in (made, improve(made)):
                assignments = tuple(assign(part) for part in given.units)
                image = build_image(given, assignments)
                self.assert_form(image, given, assignments)
                for fuel in (0, 1, 2, 4, 9, 30, 120):
                    self.assert_run(image, given, [3, 1, -2], fuel)


def made_names(*more):
    return ("constraint_error", "program_error", "storage_error", "end_error", *more)


if __name__ == "__main__":
    unittest.main()
