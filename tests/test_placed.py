"""Points [69] and [70]: runs of intermediate code over places."""

import random
import unittest

from tests.modules import WORDS, main, make_module, module, parts, unit
from tests.refcode import run_reference
from tests.test_assign import L, N, R, S, naive_sound
from windowada.assign import assign
from windowada.code import reads
from windowada.liveness import live
from windowada.placed import run_placed
from windowada.runner import run_module

TICK, END = ("tick",), ("return", ())
I = {number: ("int", number) for number in range(-9, 99)}
NORMAL = ("normal",)


def puts(*words):
    return tuple(("put", word) for word in words)


def lives(made):
    """Returns the registers of each unit that are live at index 0."""
    return [live(part)[0] for part in made.units]


class PlacedTest(unittest.TestCase):

    def look(self, made, assignments, events, ending=NORMAL, inputs=(), fuel=1000):
        self.assertEqual(run_placed(made, tuple(assignments), list(inputs), fuel=fuel), (events, ending))
        self.assertEqual(run_reference(made, inputs, fuel, assignments, lives(made)), (events, ending))

    def body(self, code, assignment, *words, **more):
        """Looks at what a main program with this assignment puts out."""
        self.look(main(*code, **more), [assignment], puts(*words))

    def test_places_are_apart(self):
        """All places at once hold what is written to each of them."""
        places = (*L, *N, S[0], S[1], ("slot", 999), ("slot", 500))
        code = [("move", number, I[number + 20]) for number in range(18)] + [("put", R[number]) for number in range(18)]
        self.body(code, places, *range(20, 38), registers=18)
        self.body(code, places[::-1], *range(20, 38), registers=18)

    def test_registers_share_a_place(self):
        for place in (L[0], L[7], N[0], N[5], S[0], ("slot", 999)):
            code = (("move", 0, I[5]), ("move", 1, I[6]), ("put", R[0]), ("put", R[1]), ("move", 0, I[7]), ("put", R[1]))
            self.body(code, (place, place), 6, 6, 7, registers=2)

    def test_the_word_at_the_start(self):
        """Each place holds 77, but those of registers that are live at index 0."""
        called = unit((TICK, ("put", R[0]), ("put", R[1]), END), parent=0, arguments=1)
        start = unit((TICK, ("call", 1, 0, (I[5],), (), 0), END))
        for place in (*L, *N[1:], *S[:3], ("slot", 999)):
            self.look(module(start, called), [(None,) * 4, (place, N[0], None, None)], puts(77, 0))
            self.look(module(start, called), [(None,) * 4, (place, place, None, None)], puts(0, 0))

    def test_arguments_come_into_the_ins(self):
        """Also if their registers have other places, which hold 77 then."""
        called = unit((TICK, ("put", R[0]), ("put", R[1]), ("put", R[2]), END), parent=0, arguments=3)
        start = unit((TICK, ("call", 1, 0, (I[5], I[6], I[7]), (), 0), END))
        none = (None,) * 4
        for places, words in (
            ((N[0], N[1], N[2], None), (5, 6, 7)), ((N[2], N[0], N[1], None), (7, 5, 6)), ((L[0], N[1], S[3], None), (77, 6, 77)),
            ((N[0], N[0], N[0], None), (5, 5, 5)), ((N[3], N[4], N[5], None), (77, 77, 77)), ((S[0], S[0], L[7], None), (77, 77, 77)),
        ):
            self.look(module(start, called), [none, places], puts(*words))

    def test_registers_that_are_live_at_the_start(self):
        """They become 0 behind the arguments, also in the place of an argument."""
        called = unit((TICK, ("put", R[0]), ("put", R[1]), ("put", R[2]), END), parent=0, arguments=2)
        start = unit((TICK, ("call", 1, 0, (I[5], I[6]), (), 0), END))
        none = (None,) * 4
        for places, words in (
            ((N[0], N[1], L[0], None), (5, 6, 0)), ((N[0], N[1], N[0], None), (0, 6, 0)), ((N[0], N[1], N[1], None), (5, 0, 0)),
            ((N[0], L[4], L[4], None), (5, 0, 0)), ((N[0], N[1], N[3], None), (5, 6, 0)), ((L[0], N[1], S[2], None), (77, 6, 0)),
        ):
            self.look(module(start, called), [none, places], puts(*words))

    def test_registers_that_are_not_live_at_the_start(self):
        """Their places are not set to 0: the argument stays in the in that another register has as well."""
        called = unit((TICK, ("put", R[0]), ("get", 1, 0), ("put", R[1]), ("put", R[0]), END), parent=0, arguments=1)
        start = unit((TICK, ("call", 1, 0, (I[5],), (), 0), END))
        none = (None,) * 4
        events = (("put", 5), ("get", 8), ("put", 8), ("put", 8))
        self.look(module(start, called), [none, (N[0], N[0], None, None)], events, inputs=[8])

    def test_results_in_their_order(self):
        called = unit((TICK, ("return", (I[5], I[6], I[7]))), parent=0, results=3)
        for results in ((0, 1, 2), (2, 1, 0), (1, 0, 2)):
            start = unit((TICK, ("call", 1, 0, (), results, 0), ("put", R[0]), ("put", R[1]), ("put", R[2]), END))
            none = (None,) * 4
            self.look(module(start, called), [(L[0], L[0], L[0], None), none], puts(7, 7, 7))
            words = [0, 0, 0]
            for number, word in zip(results, (5, 6, 7)):
                words[number] = word
            self.look(module(start, called), [(L[0], S[0], N[0], None), none], puts(*words))
            shared = words[2] if results.index(2) > results.index(1) else words[1]
            self.look(module(start, called), [(L[0], N[1], N[1], None), none], puts(words[0], shared, shared))

    def test_number_register_before_place_register(self):
        code = (("raise", 3, 2), END, ("put", R[0]), ("put", R[1]))
        for region in ((1, 2, 3, 0, 1), (1, 2, 3, 1, 0)):
            words = (3, 2) if region[3] == 0 else (2, 3)
            self.body(code, (L[0], L[1], None, None), *words, regions=(region,))
            self.body(code, (L[5], L[5], None, None), 2, 2, regions=(region,))

    def test_writes_without_a_place_are_lost(self):
        called = unit((TICK, ("return", (I[5], I[6]))), parent=0, results=2)
        code = (
            TICK, ("move", 0, I[9]), ("get", 1, 0), ("move", 1, I[8]), ("add", 2, I[1], I[2], 0), ("call", 1, 0, (), (1, 3), 0), ("put", R[0]),
            ("load", 2, 0, 0, 1, I[0]), ("raise", 1, 1), ("put", R[0]), END,
        )
        made = module(unit(code, cells=1, regions=((8, 9, 9, 1, 2),)), called)
        for place in (L[0], N[1], S[1]):
            self.look(made, [(place, None, None, None), (None,) * 4], (("get", 4), ("put", 9), ("put", 9)), inputs=[4])

    def test_an_instruction_without_a_place_still_raises(self):
        self.look(main(("div", 0, I[1], I[0], 3)), [(None,) * 4], (), ("raised", "constraint_error", 7, 3))
        self.look(main(("get", 0, 1)), [(None,) * 4], (), ("raised", "end_error", 2, 5))

    def test_operands_are_read_before_anything_is_written(self):
        code = (("move", 0, I[7]), ("move", 1, I[9]), ("sub", 2, R[1], R[0], 0), ("put", R[2]), ("put", R[0]))
        self.body(code, (L[0], L[1], L[0], None), 2, 2)
        self.body(code, (L[0], L[0], L[0], None), 0, 0)

    def test_arguments_of_calls_are_read_in_their_places(self):
        called = unit((TICK, ("put", R[0]), ("put", R[1]), END), parent=0, arguments=2)
        start = unit((TICK, ("move", 0, I[5]), ("move", 1, I[6]), ("call", 1, 0, (R[0], R[1]), (), 0), END))
        self.look(module(start, called), [(L[0], L[1], None, None), (N[0], N[1], None, None)], puts(5, 6))
        self.look(module(start, called), [(L[1], L[1], None, None), (N[1], N[0], None, None)], puts(6, 6))

    def test_each_activation_has_its_own_places(self):
        code = (TICK, ("move", 1, R[0]), ("equal", 2, R[0], I[0]), ("branch", R[2], 6), ("sub", 3, R[0], I[1], 0), ("call", 1, 1, (R[3],), (), 0),
                ("put", R[1]), END)
        made = module(unit((TICK, ("call", 1, 0, (I[3],), (), 0), END)), unit(code, parent=0, arguments=1))
        for places in ((N[0], L[0], L[1], L[2]), (N[0], S[0], S[1], S[2]), (N[0], N[1], N[2], N[3])):
            self.look(made, [(None,) * 4, places], puts(0, 1, 2, 3))

    # All of it

    def test_sound_assignments_of_made_modules(self):
        """Also with faults, and with places exchanged."""
        rng = random.Random(7)
        endings = set()
        for seed in range(700):
            made = make_module(seed)
            before = parts(made)
            first = tuple(assign(part) for part in made.units)
            rows = [first, tuple(self.exchanged(rng, part, places) for part, places in zip(made.units, first))]
            for fuel in (0, 1, 2, 5, 12, 40):
                inputs = [rng.choice(WORDS) for _ in range(rng.randint(0, 5))]
                given = list(inputs)
                expected = run_module(made, inputs, fuel=fuel)
                endings.add(expected[1][0])
                for assignments in rows:
                    self.assertEqual(run_placed(made, assignments, inputs, fuel=fuel), expected, seed)
                self.assertEqual(inputs, given)
            self.assertEqual(parts(made), before)
        self.assertEqual(endings, {"normal", "raised", "exhausted", "fault"})

    def exchanged(self, rng, part, places):
        """Returns another sound assignment: the places, but for those of live arguments, are put for others."""
        pool = [*L, *N, *S[:4], ("slot", 999)]
        rng.shuffle(pool)
        fixed = {places[number] for number in live(part)[0] if number < part.arguments}
        free = [place for place in pool if place not in fixed]
        new = {None: None, **{place: place for place in fixed}}
        for place in places:
            if place not in new:
                new[place] = free.pop()
        changed = tuple(new[place] for place in places)
        self.assertTrue(naive_sound(part, changed))
        return changed

    def test_any_assignments_of_made_modules(self):
        """They need not be sound: each register that is read has a place, whichever it is."""
        rng = random.Random(8)
        for seed in range(700):
            made = make_module(seed)
            assignments = []
            for part in made.units:
                read = {number for instruction in part.code for number in reads(instruction)}
                pool = [*L[:2], *N[:3], S[0], ("slot", 999)]
                places = [rng.choice(pool if number in read else [*pool, None]) for number in range(part.registers)]
                assignments.append(tuple(places))
            for fuel in (0, 1, 3, 12, 40):
                inputs = [rng.choice(WORDS) for _ in range(rng.randint(0, 5))]
                expected = run_reference(made, inputs, fuel, assignments, lives(made))
                self.assertEqual(run_placed(made, tuple(assignments), inputs, fuel=fuel), expected, seed)


if __name__ == "__main__":
    unittest.main()
