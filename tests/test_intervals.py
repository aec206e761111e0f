"""Point [60] and the example of point [64]: the intervals of registers."""

import random
import unittest

from tests.modules import MAX, MIN, WORDS, main, make_module, module, unit, unit_parts
from tests.refcode import Reference
from tests.test_flow import naive_edges
from windowada.code import writes
from windowada.intervals import intervals
from windowada.ranges import binary_interval, unary_interval

TICK, END = ("tick",), ("return", ())
R = [("reg", number) for number in range(8)]
I = {number: ("int", number) for number in range(-99, 99)}
ALL = (MIN, MAX)
OPERATORS = {
    "neg": lambda a: -a, "abs": abs, "add": lambda a, b: a + b, "sub": lambda a, b: a - b, "mul": lambda a, b: a * b,
    "div": lambda a, b: abs(a) // abs(b) * (1 if (a < 0) == (b < 0) else -1), "mod": lambda a, b: a % b,
    "rem": lambda a, b: a - b * (abs(a) // abs(b) * (1 if (a < 0) == (b < 0) else -1)),
    "less": lambda a, b: int(a < b), "equal": lambda a, b: int(a == b),
}


def between(low, high, number=0):
    """Instructions after which a register lies from low to high, and can have each of these words."""
    return (("get", number, 0), ("check", ("reg", number), low, high, 0))


class Exact:
    """Looks at the sentences of the point on what is exact in the intervals of a unit."""

    def __init__(self, case, made, found):
        self.case = case
        self.unit = made
        self.found = found

    def interval(self, operand, state):
        return (operand[1], operand[1]) if operand[0] == "int" else state[operand[1]]

    def look(self):
        ways = naive_edges(self.unit)
        entries = {region[2] for region in self.unit.regions}
        for index in range(1, len(ways)):
            ahead = [other for other, onward in enumerate(ways) if index in onward]
            if len(ahead) == 1 and index not in entries and self.unit.code[ahead[0]][0] != "branch":
                self.follows(self.unit.code[ahead[0]], self.found[ahead[0]], self.found[index])

    def follows(self, instruction, state, behind):
        case = self.case
        if state is None:
            case.assertIsNone(behind)
            return
        if instruction[0] == "check":
            low, high = self.interval(instruction[1], state)
            low, high = max(low, instruction[2]), min(high, instruction[3])
            if low > high:
                case.assertIsNone(behind)
                return
            expected = list(state)
            if instruction[1][0] == "reg":
                expected[instruction[1][1]] = (low, high)
            case.assertEqual(behind, tuple(expected))
            return
        exact = self.results(instruction, state)
        if behind is None:
            case.assertTrue(exact is not None and (exact[0] > MAX or exact[1] < MIN), instruction)
            return
        for number, interval in enumerate(behind):
            if number not in writes(instruction):
                case.assertEqual(interval, state[number], instruction)
            elif instruction[0] in ("move", "neg", "add", "sub", "mul") and MIN <= exact[0] and exact[1] <= MAX:
                case.assertEqual(interval, exact, instruction)

    def results(self, instruction, state):
        """The least and the greatest result; for some others (MAX + 1, MAX + 1) if there is none, otherwise None."""
        name = instruction[0]
        if name not in ("move", *OPERATORS):
            return None
        left = self.interval(instruction[2], state)
        if name in ("move", "neg"):
            return left if name == "move" else (-left[1], -left[0])
        if name == "abs":
            return (MAX + 1, MAX + 1) if left == (MIN, MIN) else None
        right = self.interval(instruction[3], state)
        if name in ("div", "mod", "rem"):
            none = right == (0, 0) or (name == "div" and left == (MIN, MIN) and right == (-1, -1))
            return (MAX + 1, MAX + 1) if none else None
        if name in ("less", "equal"):
            return None
        found = [OPERATORS[name](one, other) for one in left for other in right]
        return (min(found), max(found))


class IntervalsTest(unittest.TestCase):

    def ahead(self, index, *code, **more):
        """Returns the intervals ahead of an index behind a tick."""
        made = main(*code, **more).units[0]
        found = intervals(made)
        Exact(self, made, found).look()
        return found[index]

    def behind(self, *code, **more):
        """Returns the intervals behind the code."""
        return self.ahead(len(code) + 1, *code, **more)

    def test_example_of_the_document(self):
        code = (TICK, ("move", 0, ("int", 6)), ("check", R[0], 1, 9, 0), ("mul", 1, R[0], ("int", 7), 0), ("put", R[1]), END)
        found = intervals(unit(code, registers=2))
        self.assertEqual([state[0] for state in found[2:]], [(6, 6)] * 4)
        self.assertEqual([state[1] for state in found[4:]], [(42, 42)] * 2)

    def test_move(self):
        for word in (0, 1, -1, 6, MIN, MAX):
            self.assertEqual(self.behind(("move", 0, ("int", word)))[0], (word, word))
            self.assertEqual(self.behind(("move", 0, ("int", word)), ("move", 3, R[0]))[3], (word, word))
        for low, high in ((0, 0), (1, 9), (MIN, 5), (-5, MAX), (MIN, MAX)):
            self.assertEqual(self.behind(*between(low, high), ("move", 3, R[0]))[3], (low, high))
            self.assertEqual(self.behind(*between(low, high), ("move", 0, R[0]))[0], (low, high))

    def test_neg(self):
        for low, high in ((0, 0), (1, 9), (-4, 7), (-5, MAX), (MIN + 1, 3), (MIN + 1, MAX)):
            self.assertEqual(self.behind(*between(low, high), ("neg", 2, R[0], 0))[2], (-high, -low))
            self.assertEqual(self.behind(*between(low, high), ("neg", 0, R[0], 0))[0], (-high, -low))
        self.assertEqual(self.behind(("neg", 2, I[7], 0))[2], (-7, -7))
        # Where some results are no words, the interval is true.
        low, high = self.behind(*between(MIN, 3), ("neg", 2, R[0], 0))[2]
        self.assertTrue(low <= -3 and high == MAX)

    def test_add_sub_mul(self):
        intervals_given = ((0, 0), (1, 9), (-4, 7), (-6, -2), (0, 5), (-3, 0), (-40000, 30000))
        for left in intervals_given:
            for right in intervals_given:
                start = (*between(*left, 0), *between(*right, 1))
                for name in ("add", "sub", "mul"):
                    results = [OPERATORS[name](one, other) for one in left for other in right]
                    exact = (min(results), max(results))
                    for target in (0, 1, 2):
                        self.assertEqual(self.behind(*start, (name, target, R[0], R[1], 0))[target], exact)
                    if left[0] == left[1]:
                        self.assertEqual(self.behind(*start, (name, 2, ("int", left[0]), R[1], 0))[2], exact)
                    if right[0] == right[1]:
                        self.assertEqual(self.behind(*start, (name, 2, R[0], ("int", right[0]), 0))[2], exact)

    def test_both_operands_the_same_register(self):
        start = between(-2, 5)
        self.assertEqual(self.behind(*start, ("add", 1, R[0], R[0], 0))[1], (-4, 10))
        self.assertEqual(self.behind(*start, ("sub", 1, R[0], R[0], 0))[1], (-7, 7))
        self.assertEqual(self.behind(*start, ("mul", 1, R[0], R[0], 0))[1], (-10, 25))
        self.assertEqual(self.behind(*start, ("sub", 0, R[0], R[0], 0))[0], (-7, 7))

    def test_ends_of_the_words(self):
        for code, exact in (
            ((*between(MAX - 3, MAX - 1), ("add", 1, R[0], I[1], 0)), (MAX - 2, MAX)),
            ((*between(MIN + 1, MIN + 3), ("sub", 1, R[0], I[1], 0)), (MIN, MIN + 2)),
            ((*between(0, 32768), ("mul", 1, R[0], ("int", -65536), 0)), (MIN, 0)),
            ((*between(MIN, MAX), ("mul", 1, R[0], I[0], 0)), (0, 0)),
            ((*between(MIN, MAX), ("mul", 1, R[0], I[1], 0)), (MIN, MAX)),
        ):
            self.assertEqual(self.behind(*code)[1], exact)

    def test_results_that_are_not_all_words(self):
        """The interval holds the words among them."""
        for code, low, high in (
            ((*between(MAX - 3, MAX), ("add", 1, R[0], I[1], 0)), MAX - 2, MAX),
            ((*between(MIN, MIN + 3), ("sub", 1, R[0], I[1], 0)), MIN, MIN + 2),
            ((*between(-9, 9), ("mul", 1, R[0], ("int", MAX), 0)), -MAX, MAX),
            ((("get", 0, 0), ("add", 1, R[0], R[0], 0)), MIN, MAX - 1),
        ):
            found = self.behind(*code)[1]
            self.assertTrue(MIN <= found[0] <= low and high <= found[1] <= MAX)

    def test_no_result_is_a_word(self):
        """The index behind may be None; here it is, or the interval is one of words."""
        for wrong in (("add", 1, I[1], ("int", MAX), 0), ("neg", 1, ("int", MIN), 0), ("div", 1, I[1], I[0], 0), ("mod", 1, I[1], I[0], 0)):
            found = self.behind(wrong)
            self.assertTrue(found is None or MIN <= found[1][0] <= found[1][1] <= MAX)

    def test_check(self):
        for low, high, cut in (
            (1, 9, (1, 9)), (0, 10, (1, 9)), (3, 6, (3, 6)), (MIN, 4, (1, 4)), (4, MAX, (4, 9)), (9, 9, (9, 9)), (1, 1, (1, 1)),
            (MIN, MAX, (1, 9)), (9, 40, (9, 9)), (10, 40, None), (-5, 0, None),
        ):
            found = self.behind(*between(1, 9), ("check", R[0], low, high, 0))
            if cut is None:
                self.assertIsNone(found)
            else:
                self.assertEqual(found[0], cut)
                self.assertEqual(found[1:], ((0, 0),) * 3)

    def test_check_of_a_number(self):
        for word, low, high, holds in ((5, 5, 5, True), (5, 1, 9, True), (5, 6, 9, False), (5, 1, 4, False), (MIN, MIN, MAX, True)):
            found = self.behind(*between(1, 9), ("check", ("int", word), low, high, 0))
            self.assertEqual(found, ((1, 9), (0, 0), (0, 0), (0, 0)) if holds else None)

    def test_none_goes_on(self):
        """Behind a check that never holds nothing is reached, up to where another way leads."""
        code = (("branch", R[0], 5), ("check", I[1], 2, 2, 0), ("put", R[0]), ("move", 1, I[1]), ("put", R[0]))
        made = main(("get", 0, 0), *code).units[0]
        found = intervals(made)
        self.assertEqual([state is None for state in found], [False] * 4 + [True] + [False] * 3)
        Exact(self, made, found).look()

    def test_other_registers_stay(self):
        start = (*between(1, 9), *between(-4, 7, 1), *between(3, 3, 2), ("get", 3, 0))
        expected = ((1, 9), (-4, 7), (3, 3), ALL)
        other = unit((TICK, ("return", (I[1],))), parent=0, results=1)
        for instruction in (
            TICK, ("move", 3, R[0]), ("neg", 3, R[0], 0), ("abs", 3, R[1], 0), ("add", 3, R[0], R[0], 0), ("div", 3, R[0], R[2], 0),
            ("mod", 3, R[1], R[0], 0), ("rem", 3, R[1], R[0], 0), ("less", 3, R[0], R[1]), ("equal", 3, R[0], R[1]),
            ("check", R[3], 1, 2, 0), ("load", 3, 0, 0, 2, R[0]), ("store", 0, 0, 2, R[0], R[1]), ("call", 1, 0, (), (3,), 0),
            ("put", R[1]), ("get", 3, 0),
        ):
            code = (TICK, *start, instruction, TICK, END)
            made = module(unit(code, cells=2), other).units[0]
            found = intervals(made)
            Exact(self, made, found).look()
            self.assertEqual(found[len(start) + 2][:3], expected[:3], instruction)
            if instruction[0] in ("load", "call", "get"):
                self.assertEqual(found[len(start) + 2][3], ALL)
            if not writes(instruction) and instruction[0] != "check":
                self.assertEqual(found[len(start) + 2], expected, instruction)

    def test_ways_without_a_branch(self):
        """Behind a jump, and at an index that only a jump leads to, forward and backward."""
        code = (TICK, *between(2, 8), ("jump", 7), TICK, ("put", R[0]), END, ("add", 1, R[0], I[1], 0), ("jump", 4))
        made = unit(code)
        found = intervals(made)
        Exact(self, made, found).look()
        self.assertEqual(found[4][:2], ((2, 8), (3, 9)))
        self.assertEqual(found[5][:2], ((2, 8), (3, 9)))

    def test_one_way_that_is_not_reached(self):
        """Index 4 follows index 3 alone, which nothing reaches."""
        found = intervals(unit((TICK, END, TICK, ("put", R[0]), ("put", R[1]), END)))
        self.assertEqual(found[3:], [None] * 3)

    def test_start(self):
        made = unit((TICK, END), arguments=2, registers=5)
        self.assertEqual(intervals(made), [(ALL, ALL, (0, 0), (0, 0), (0, 0))] * 2)

    def test_no_registers(self):
        made = unit((TICK, TICK, ("jump", 0), END), registers=0)
        self.assertEqual(intervals(made), [(), (), (), None])

    def test_a_new_list_each_time(self):
        made = unit((TICK, END))
        first = intervals(made)
        first.append(1)
        self.assertEqual(intervals(made), [((0, 0),) * 4] * 2)
        self.assertIs(type(first), list)

    def test_branches(self):
        """Each way that a run may go is reached."""
        for low, high in ((0, 3), (-3, 0), (-1, 1), (0, 1), (MIN, MAX), (0, 0), (1, 3), (-3, -1)):
            made = main(*between(low, high), ("branch", R[0], 5), ("put", I[1]), ("put", I[2])).units[0]
            found = intervals(made)
            Exact(self, made, found).look()
            if low <= 0 <= high:
                self.assertIsNotNone(found[4])
            if low != 0 or high != 0:
                self.assertIsNotNone(found[5])
        for word in (0, 1, -1):
            found = intervals(main(("branch", ("int", word), 3), ("put", I[1]), ("put", I[2])).units[0])
            self.assertIsNotNone(found[2 if word == 0 else 3])

    def test_entries(self):
        """At an entry both registers have what the exceptions give, the others what they can have where it is raised."""
        code = (*between(1, 3), ("raise", 1, 2), ("put", R[0]))
        found = self.ahead(4, *code, regions=((3, 4, 4, 2, 3),))
        self.assertEqual(found[:2], ((1, 3), (0, 0)))
        self.assertTrue(found[2][0] <= 1 <= found[2][1] and found[3][0] <= 2 <= found[3][1])

    def test_loops_end(self):
        """A counter, registers that follow one another, and a loop in a loop."""
        for code in (
            (TICK, ("add", 0, R[0], I[1], 0), ("jump", 0)),
            (TICK, ("sub", 0, R[0], I[1], 0), ("add", 1, R[1], R[0], 0), ("mul", 2, R[1], R[0], 0), ("jump", 0)),
            (TICK, ("move", 3, R[2]), ("move", 2, R[1]), ("move", 1, R[0]), ("add", 0, R[0], I[1], 0), ("jump", 0)),
            (TICK, TICK, ("add", 0, R[0], I[1], 0), ("branch", R[1], 1), ("sub", 2, R[2], R[0], 0), ("get", 1, 0), ("jump", 0)),
            (TICK, ("add", 0, R[0], I[1], 0), ("check", R[0], -5, 10, 0), ("put", R[0]), ("jump", 0)),
            (TICK, ("get", 1, 0), ("branch", R[1], 5), ("add", 0, R[0], I[1], 0), ("check", R[0], 0, 10, 0), ("mul", 2, R[0], I[-3], 0),
             ("jump", 0)),
        ):
            made = unit(code)
            found = intervals(made)
            Exact(self, made, found).look()
            for _, index, words in self.notes(module(made), [1, 1, 0, 1], 40):
                self.true(found[index], words)

    def notes(self, made, inputs, fuel):
        reference = Reference(made, inputs, fuel)
        reference.run()
        return reference.notes

    def true(self, state, words):
        self.assertIsNotNone(state)
        self.assertTrue(all(MIN <= low <= word <= high <= MAX for (low, high), word in zip(state, words)), (state, words))

    def test_made_modules(self):
        """For each run each register lies in its interval, and the intervals are as exact as they must be."""
        for seed in range(1500):
            made = make_module(seed)
            before = [unit_parts(part) for part in made.units]
            found = [intervals(part) for part in made.units]
            for part, states in zip(made.units, found):
                self.assertEqual(len(states), len(part.code))
                Exact(self, part, states).look()
                for state in states:
                    if state is not None:
                        self.assertEqual(len(state), part.registers)
                        self.assertTrue(all(MIN <= low <= high <= MAX for low, high in state))
            rng = random.Random(seed)
            for fuel in (3, 30):
                inputs = [rng.choice(WORDS) for _ in range(rng.randint(0, 6))]
                for number, index, words in self.notes(made, inputs, fuel):
                    self.true(found[number][index], words)
            self.assertEqual([unit_parts(part) for part in made.units], before)


class RangesTest(unittest.TestCase):
    """The intervals of results, against all words of small intervals."""

    SMALL = [(low, high) for low in range(-4, 5) for high in range(low, 5)]
    LARGE = [(MIN, MIN + 2), (MAX - 2, MAX), (MIN, MIN), (MAX, MAX), (-2, 1), (0, 0), (-1, -1), (46340, 46342), (-46342, -46340)]

    def words(self, name, *given):
        results = []
        for left in range(given[0][0], given[0][1] + 1):
            rights = [()] if len(given) == 1 else [(right,) for right in range(given[1][0], given[1][1] + 1)]
            for right in rights:
                if right != (0,) or name not in ("div", "mod", "rem"):
                    results.append(OPERATORS[name](left, *right))
        return [word for word in results if MIN <= word <= MAX]

    def look(self, name, found, given):
        words = self.words(name, *given)
        if found is None:
            self.assertEqual(words, [], (name, given))
        else:
            self.assertTrue(MIN <= found[0] <= found[1] <= MAX, (name, given))
            self.assertTrue(not words or (found[0] <= min(words) and max(words) <= found[1]), (name, given, found))
            if words and name in ("neg", "abs", "add", "sub", "less", "equal"):
                # These are not only true, but the least ones.
                self.assertEqual(found, (min(words), max(words)), (name, given))

    def test_unary(self):
        for interval in self.SMALL + self.LARGE:
            for name in ("neg", "abs"):
                self.look(name, unary_interval(name, interval), (interval,))

    def test_binary(self):
        for given in (self.SMALL, self.LARGE):
            for left in given:
                for right in given:
                    for name in ("add", "sub", "mul", "div", "mod", "rem", "less", "equal"):
                        self.look(name, binary_interval(name, left, right), (left, right))


if __name__ == "__main__":
    unittest.main()
