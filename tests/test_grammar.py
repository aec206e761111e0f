"""Points [13] and [14]: what is a program, and the place of ParseError, compared with the grammar as it stands."""

import random
import unittest

from tests.earley import GRAMMAR, viable
from tests.programs import make_program
from windowada.errors import ParseError, SourceError, TooLarge
from windowada.declarations import parse
from windowada.expressions import parse_expression
from windowada.show import show
from windowada.tokens import scan

SIGNS = ":= => .. /= <= >= ( ) , : ; ' | + - * / = < >".split()
WORDS = sorted(set(GRAMMAR.replace('"', " ").split()) & set(
    "abs and array begin case constant declare else elsif end exception exit false for function get if in is loop mod "
    "not null of or others out procedure put raise range rem return reverse subtype then true type when while xor".split()
))
ATTRIBUTES = [["'", "first"], ["'", "last"], ["'", "p"]]
PHRASES = [[word] for word in WORDS] + [[sign] for sign in SIGNS] + ATTRIBUTES + [["p"], ["1"]] * 8
PHRASES += [["end", "p", ";"], ["end", ";"], ["and", "then"], ["or", "else"], ["null", ";"], ["others", "=>"]] * 3


def phrases_of(text):
    """Returns the tokens of a text as lists of strings, with p for all names."""
    tokens = scan(text)[:-1]
    values = [str(value) for _, value, _, _ in tokens]
    phrases = []
    for at, (kind, value, _, _) in enumerate(tokens):
        attribute = at > 0 and tokens[at - 1][1] == "'"
        if attribute:
            phrases[-1].append(value)
        else:
            phrases.append(["p"] if kind == "name" else [values[at]])
    return phrases


def mutate(rng, phrases):
    """Returns the phrases with one small change."""
    changed = list(phrases)
    at = rng.randrange(len(changed) + 1)
    action = rng.choice(("cut", "drop", "insert", "replace", "swap", "copy"))
    if action == "cut":
        return changed[:at]
    if action == "drop":
        return changed[:at] + changed[at + 1:]
    if action == "insert":
        return changed[:at] + [rng.choice(PHRASES)] + changed[at:]
    if action == "replace":
        return changed[:at] + [rng.choice(PHRASES)] + changed[at + 1:]
    if action == "swap" and at > 1:
        changed[at - 1], changed[at - 2] = changed[at - 2], changed[at - 1]
        return changed
    other = rng.randrange(len(changed) + 1)
    return changed[:at] + [rng.choice((changed + [["p"]])[other:other + 1] or [["p"]])] + changed[at:]


class GrammarTest(unittest.TestCase):

    def assert_same(self, function, start, phrases):
        text = " ".join(value for phrase in phrases for value in phrase)
        tokens = scan(text)
        many = viable(tokens, start)
        try:
            function(text)
            found = None
        except TooLarge:
            found = None
        except ParseError as error:
            found = (error.line, error.column)
        self.assertEqual(found, None if many == len(tokens) else tokens[many][2:], text)

    def programs(self, seeds):
        for seed in seeds:
            text = show(make_program(seed), indent=0)
            if len(text) <= 700:
                yield random.Random(seed), phrases_of(text)

    def test_programs(self):
        for _, phrases in self.programs(range(60)):
            self.assert_same(parse, "program", phrases)

    def test_changed_programs(self):
        many = 0
        for rng, phrases in self.programs(range(100, 260)):
            for _ in range(4):
                changed = phrases
                for _ in range(rng.choice((1, 1, 2))):
                    changed = mutate(rng, changed)
                self.assert_same(parse, "program", changed)
                many += 1
        self.assertGreater(many, 100)

    def test_changed_expressions(self):
        for text in (
            "p + p * - p ( 1 , p ' last ) mod 1", "not p = 1 and then p < 1 and then true", "p or p or ( p xor p ) or p",
            "( ( 1 ) - p ( p ( p ) ) ) /= 1", "p and p and p /= p and p", "p or else p or else not not p",
            "abs 1 rem - - p >= ( p xor p )",
        ):
            phrases = phrases_of(text)
            self.assert_same(parse_expression, "expression", phrases)
            rng = random.Random(text)
            for _ in range(80):
                changed = phrases
                for _ in range(rng.choice((1, 1, 2))):
                    changed = mutate(rng, changed)
                self.assert_same(parse_expression, "expression", changed)

    def test_any_tokens(self):
        rng = random.Random(14)
        for _ in range(150):
            phrases = [rng.choice(PHRASES) for _ in range(rng.randrange(8))]
            self.assert_same(parse, "program", phrases)
            self.assert_same(parse_expression, "expression", phrases)
            self.assert_same(parse, "program", [["procedure"], ["p"], ["is"]] + phrases)
            self.assert_same(parse, "program", [["procedure"], ["p"], ["is"], ["begin"]] + phrases)

    def test_every_next_token(self):
        # Behind each beginning of these texts every token is tried.
        for text in BEGINNINGS:
            phrases = phrases_of(text)
            for many in range(len(phrases) + 1):
                for phrase in PHRASES[:len(WORDS) + len(SIGNS) + 3] + [["p"], ["1"]]:
                    self.assert_same(parse, "program", phrases[:many] + [phrase])


BEGINNINGS = (
    "procedure p is p : p := 1 ; p : constant p := 1 ; p : exception ; subtype p is p range - 1 .. 1 ; "
    "type p is array ( 1 .. - 1 ) of p ; begin null ; end p ;",
    "procedure p is procedure p ( p : in out p ; p : in p ; p : out p ) is begin p ; end p ; "
    "function p return p is begin return ; exception when p | p => p ( 1 , 1 ) ; when others => raise p ; end ; "
    "begin p ( 1 ) := p ; end ;",
    "procedure p is begin if p then get ( p ( 1 ) ) ; elsif p then put ( 1 ) ; else exit when p ; end if ; "
    "for p in reverse 1 .. p loop p := 1 ; end loop ; while p loop exit ; end loop ; loop raise ; end loop ; end ;",
    "procedure p is begin case p is when 1 | - 1 .. 1 => null ; when others => return p ; end case ; "
    "declare p : p ; begin null ; exception when others => begin null ; end ; end ; end p ;",
)


class EndingNamesTest(unittest.TestCase):
    """The name behind an end is that of its subprogram."""

    def test_names(self):
        good = "procedure m is procedure a is begin null; end a; function b return integer is begin null; end b; "
        good += "begin null; end m;"
        parse(good)
        parse(good.replace("end a", "end").replace("end b", "end").replace("end m", "end"))
        for old, new in (("end a", "end b"), ("end a", "end m"), ("end b", "end a"), ("end m", "end a"), ("end m", "end mm")):
            text = good.replace(old, new)
            at = good.index(old) + 5
            with self.assertRaises(SourceError) as caught:
                parse(text)
            self.assertIs(type(caught.exception), ParseError)
            self.assertEqual((caught.exception.line, caught.exception.column), (1, at))


if __name__ == "__main__":
    unittest.main()
