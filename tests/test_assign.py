"""Points [66] to [68]: conflicts, sound assignments, and the assignment that assign returns."""

import random
import unittest

from tests.modules import make_module, unit, unit_parts
from tests.test_liveness import naive_live
from windowada.assign import assign, conflicts, is_sound
from windowada.code import Unit, followers, reads, writes

TICK, END = ("tick",), ("return", ())
R = [("reg", number) for number in range(60)]
L = [("local", number) for number in range(8)]
N = [("in", number) for number in range(6)]
S = [("slot", number) for number in range(99)]


def naive_conflicts(made):
    """The pairs of point [66], one reason after another."""
    sets = naive_live(made)
    pairs = {(one, other) for row in sets for one in row for other in row}
    for index, instruction in enumerate(made.code):
        for written in writes(instruction):
            pairs |= {(written, other) for target in followers(instruction, index) for other in sets[target]}
            pairs |= {(written, other) for other in writes(instruction)}
    for _, _, entry, number, place in made.regions:
        pairs |= {(one, other) for one in (number, place) for other in sets[entry]} | {(number, place)}
    pairs |= {(other, one) for one, other in pairs}
    rows = range(made.registers)
    return tuple(tuple(other for other in rows if other != one and (one, other) in pairs) for one in rows)


def naive_assign(made):
    """The assignment as point [68] tells it."""
    read = {number for instruction in made.code for number in reads(instruction)}
    given = {number: N[number] for number in naive_live(made)[0] if number < made.arguments}
    for number in sorted(read - set(given)):
        taken = [given.get(other) for other in naive_conflicts(made)[number]]
        given[number] = next(place for place in (*L, *N, *S) if place not in taken)
    return tuple(given.get(number) for number in range(made.registers))


def naive_sound(made, assignment):
    """Point [67]."""
    read = {number for instruction in made.code for number in reads(instruction)}
    if {number for number, place in enumerate(assignment) if place is not None} != read:
        return False
    for number, row in enumerate(naive_conflicts(made)):
        if any(assignment[number] == assignment[other] is not None for other in row):
            return False
    return all(assignment[number] == N[number] for number in naive_live(made)[0] if number < made.arguments)


def together(many):
    """Returns instructions that write registers one after another and then read all of them."""
    return [("get", number, 0) for number in range(many)] + [("put", R[number]) for number in range(many)]


class ConflictsTest(unittest.TestCase):

    def look(self, code, expected, **more):
        made = unit(code, **more)
        before = unit_parts(made)
        found = conflicts(made)
        self.assertEqual(found, expected)
        self.assertEqual(naive_conflicts(made), expected)
        self.assertTrue(type(found) is tuple and all(type(row) is tuple for row in found))
        self.assertEqual(unit_parts(made), before)

    def test_both_are_live(self):
        # 0 and 1 are live at the start, and nothing writes them.
        self.look((TICK, ("put", R[0]), ("put", R[1]), END), ((1,), (0,), (), ()))
        # Also where nothing reaches the index.
        self.look((TICK, END, ("put", R[2]), ("put", R[0]), END), ((2,), (), (0,), ()))
        # One behind the other: no conflict.
        self.look((TICK, ("get", 0, 0), ("put", R[0]), ("get", 1, 0), ("put", R[1]), END), ((), (), (), ()))

    def test_written_while_the_other_is_live(self):
        # 1 is never read, but it is written while 0 is live.
        self.look((TICK, ("get", 0, 0), ("move", 1, ("int", 5)), ("put", R[0]), END), ((1,), (0,), (), ()))
        # A register that is live ahead of the instruction alone is in no conflict with what it writes.
        self.look((TICK, ("get", 0, 0), ("move", 1, R[0]), ("put", R[1]), END), ((), (), (), ()))
        # Each index that may follow counts: the last instruction's is that of the jump.
        self.look((TICK, ("put", R[0]), ("get", 1, 0), ("jump", 0)), ((1,), (0,), (), ()))
        # The followers of a branch both count, but a branch writes nothing.
        self.look((TICK, ("get", 1, 0), ("branch", R[1], 4), ("put", R[0]), END), ((1,), (0,), (), ()))

    def test_a_write_that_only_an_exception_follows(self):
        """3 is live at the entry, and the get at index 1 writes 2; behind it nothing is live."""
        code = (TICK, ("get", 2, 0), END, ("put", R[3]), END)
        self.look(code, ((1, 3), (0, 3), (), (0, 1)), regions=((1, 2, 3, 0, 1),))

    def test_results_of_one_call(self):
        self.look((TICK, ("call", 1, 0, (), (3, 0, 2), 0), END), ((2, 3), (), (0, 3), (0, 2)))

    def test_registers_of_a_region(self):
        code = (TICK, ("put", R[0]), END)
        # The two of one region, though nothing is live at its entry and nothing takes it.
        self.look(code, ((), (), (3,), (2,)), regions=((0, 1, 2, 3, 2),))
        # What is live at the entry.
        code = (TICK, TICK, ("put", R[0]), ("put", R[1]), END)
        self.look(code, ((1, 2, 3), (0, 2, 3), (0, 1, 3), (0, 1, 2)), regions=((0, 1, 2, 2, 3),))
        # Where the number register is live itself.
        self.look(code, ((1, 3), (0, 3), (), (0, 1)), regions=((0, 1, 2, 0, 3),))
        self.look(code, ((1, 2), (0, 2), (0, 1), ()), regions=((0, 1, 2, 2, 1),))

    def test_no_registers(self):
        self.look((TICK, END), (), registers=0)
        self.look((TICK, END), ((),), registers=1)

    def test_made_units(self):
        for seed in range(800):
            for made in make_module(seed).units:
                self.assertEqual(conflicts(made), naive_conflicts(made), seed)


class AssignTest(unittest.TestCase):

    def look(self, made, expected):
        before = unit_parts(made)
        self.assertEqual(assign(made), expected)
        self.assertEqual(naive_assign(made), expected)
        self.assertIs(is_sound(made, expected), True)
        self.assertIs(type(assign(made)), tuple)
        self.assertEqual(unit_parts(made), before)

    def test_example_of_the_document(self):
        code = (("tick",), ("get", 0, 0), ("put", ("reg", 0)), ("put", ("reg", 1)), ("return", ()))
        self.look(Unit(-1, 0, 0, 2, 0, code, ()), (("local", 0), ("local", 1)))

    def test_registers_that_nothing_reads(self):
        self.look(unit((TICK, ("get", 0, 0), ("get", 1, 0), ("put", R[1]), END)), (None, L[0], None, None))
        self.look(unit((TICK, END), arguments=2), (None,) * 4)
        # What nothing reaches is read, too.
        self.look(unit((TICK, END, ("put", R[2]), END)), (None, None, L[0], None))

    def test_all_places(self):
        for many in (1, 8, 9, 14, 15, 17, 40):
            places = (*L, *N, *S)[:many]
            self.look(unit((TICK, *together(many), END), registers=many + 1), (*places, None))

    def test_registers_that_share_a_place(self):
        code = [TICK]
        for number in range(20):
            code += [("get", number, 0), ("put", R[number])]
        self.look(unit((*code, END), registers=20), (L[0],) * 20)
        # A place of one that is not in conflict is taken again: 2 is in conflict with 1 alone.
        code = (TICK, ("get", 0, 0), ("get", 1, 0), ("put", R[0]), ("get", 2, 0), ("put", R[1]), ("put", R[2]), END)
        self.look(unit(code), (L[0], L[1], L[0], None))

    def test_arguments(self):
        """Those that are live at index 0 come into the ins; others get any places."""
        code = (TICK, ("put", R[2]), ("get", 1, 0), ("put", R[1]), ("put", R[0]), END)
        self.look(unit(code, arguments=3), (N[0], L[0], N[2], None))
        six = (TICK, *[("put", R[number]) for number in range(6)], END)
        self.look(unit(six, arguments=6, registers=6), tuple(N))

    def test_ins_that_arguments_have(self):
        """The locals are full, so the ins follow that no register in conflict has."""
        code = (TICK, *[("get", number, 0) for number in range(2, 18)], *[("put", R[number]) for number in range(18)], END)
        self.look(unit(code, arguments=2, registers=18), (N[0], N[1], *L, *N[2:], *S[:4]))
        # The argument is not live any more when the others are.
        code = (TICK, ("put", R[0]), *[("get", number, 0) for number in range(1, 12)], *[("put", R[number]) for number in range(1, 12)], END)
        self.look(unit(code, arguments=1, registers=12), (N[0], *L, N[0], N[1], N[2]))

    def test_made_units(self):
        for seed in range(800):
            for made in make_module(seed).units:
                self.look(made, naive_assign(made))


class SoundTest(unittest.TestCase):

    def look(self, made, assignment, expected):
        before = unit_parts(made)
        self.assertIs(is_sound(made, assignment), expected, assignment)
        self.assertEqual(naive_sound(made, assignment), expected)
        self.assertEqual(unit_parts(made), before)

    def test_other_sound_assignments(self):
        made = unit((TICK, ("get", 0, 0), ("put", R[0]), ("put", R[1]), END), registers=2)
        for one, other in ((L[0], L[1]), (L[1], L[0]), (S[98], N[5]), (N[0], N[1]), (L[7], ("slot", 999)), (N[0], L[0]), (S[0], L[0])):
            self.look(made, (one, other), True)

    def test_none_for_a_register_that_is_read(self):
        made = unit((TICK, ("get", 0, 0), ("put", R[0]), END, ("put", R[1]), END), registers=3)
        self.look(made, (L[0], L[0], None), True)
        self.look(made, (None, L[0], None), False)
        self.look(made, (L[0], None, None), False)

    def test_a_place_for_a_register_that_is_not_read(self):
        made = unit((TICK, ("get", 0, 0), END), registers=2)
        self.look(made, (None, None), True)
        self.look(made, (L[0], None), False)
        self.look(made, (None, S[4]), False)

    def test_one_place_in_conflict(self):
        for kind in ("local", "in", "slot"):
            made = unit((TICK, *together(4), END))
            for one in range(4):
                for other in range(one):
                    places = [(kind, number) for number in range(4)]
                    self.look(made, tuple(places), True)
                    places[one] = places[other]
                    self.look(made, tuple(places), False)

    def test_each_reason_of_a_conflict(self):
        """0 and 1 may share a place in the first of two units, and not in the second one."""
        one = unit((TICK, ("get", 0, 0), ("put", R[0]), ("get", 1, 0), ("put", R[1]), END), registers=2)
        for code, regions in (
            ((TICK, ("put", R[0]), ("put", R[1]), END), ()),
            ((TICK, ("get", 0, 0), ("move", 1, ("int", 5)), ("put", R[0]), END, ("put", R[1]), END), ()),
            ((TICK, ("get", 0, 0), ("put", R[0]), END, ("get", 1, 0), ("put", R[1]), END), ((0, 1, 3, 0, 1),)),
        ):
            made = unit(code, registers=2, regions=regions)
            self.look(one, (L[0], L[0]), True)
            self.look(made, (L[0], L[0]), False)
            self.look(made, (L[0], L[1]), True)
        call = unit((TICK, ("call", 1, 0, (), (0, 1), 0), ("put", R[0]), END, ("get", 1, 0), ("put", R[1]), END), registers=2)
        self.look(call, (L[0], L[0]), False)
        self.look(call, (L[0], L[1]), True)
        entry = unit((TICK, ("put", R[0]), END, ("get", 1, 0), ("put", R[1]), END), registers=3, regions=((1, 2, 3, 1, 2),))
        self.look(entry, (L[0], L[0], None), True)
        entry = unit((TICK, END, ("put", R[0]), END, ("get", 1, 0), ("put", R[1]), END), registers=3, regions=((0, 1, 2, 1, 2),))
        self.look(entry, (L[0], L[0], None), False)

    def test_arguments(self):
        made = unit((TICK, ("put", R[0]), ("get", 1, 0), ("put", R[1]), END), arguments=2, registers=2)
        for places, expected in (
            ((N[0], N[1]), True), ((N[0], L[0]), True), ((N[0], N[0]), True), ((N[1], N[0]), False), ((L[0], N[1]), False), ((S[0], L[0]), False),
        ):
            self.look(made, places, expected)

    def test_no_registers(self):
        self.look(unit((TICK, END), registers=0), (), True)

    def test_changed_assignments(self):
        """Those of assign with one place changed, and with two exchanged."""
        rng = random.Random(5)
        for seed in range(400):
            for made in make_module(seed).units:
                if made.registers:
                    places = list(assign(made))
                    for _ in range(6):
                        changed = list(places)
                        at, other = rng.randrange(len(places)), rng.randrange(len(places))
                        if rng.random() < 0.5:
                            changed[at], changed[other] = changed[other], changed[at]
                        else:
                            changed[at] = rng.choice((None, *L[:3], *N[:3], S[0]))
                        self.look(made, tuple(changed), naive_sound(made, changed))


if __name__ == "__main__":
    unittest.main()
