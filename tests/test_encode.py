"""Points [71] to [73]: the words of the instructions."""

import random
import unittest

from tests.refcpu import NAMES, instruction_of
from windowada.decode import decode
from windowada.encode import encode
from windowada.errors import AdaError, ImageError, SourceError

BAD = ("bad",)
WITH_SOURCE = {
    **{name: "da" for name in ("add", "sub", "mul", "div", "mod", "rem", "less", "equal", "load", "store", "save")},
    "again": "a", "below": "a", "above": "a", "put": "", "setbar": "",
}
PLAIN = ("halt", "restore", "back", "tick", "retry")
HUGE = 10 ** 6000


def number_of(name):
    return NAMES.index(name) * 2 ** 26


def long_form(name, d=0, a=0, flag=0, low=0):
    """The word with these fields of the form of the operators."""
    return number_of(name) + d * 2 ** 21 + a * 2 ** 16 + flag * 2 ** 15 + low


def operands():
    """Operands with the flag and the 15 bits that they have."""
    for number in (0, 1, 17, 31):
        yield ("reg", number), (0, number)
    for number in (0, 1, 31, 32, 1000, 16382, 16383, -1, -2, -16383, -16384):
        yield ("int", number), (1, number % 32768)


def all_forms():
    """Instructions of each name with each field at its bounds and inside, and their words."""
    for name, fields in WITH_SOURCE.items():
        for s, (flag, low) in operands():
            for d in (0, 1, 14, 30, 31) if "d" in fields else (0,):
                for a in (0, 1, 9, 30, 31) if "a" in fields else (0,):
                    parts = [number for letter, number in (("d", d), ("a", a)) if letter in fields]
                    yield (name, *parts, s), long_form(name, d, a, flag, low)
    for d in (0, 1, 20, 30, 31):
        for name in ("get", "bar"):
            yield (name, d), long_form(name, d)
        for a in (0, 1, 20, 31):
            for m in (0, 1, 1000, 2046, 2047):
                yield ("low", d, a, m), long_form("low", d, a, 1, m)
        for n in (0, 1, 77, 1048574, 1048575, -1, -77, -1048575, -1048576):
            for name in ("high", "branch"):
                yield (name, d, n), number_of(name) + d * 2 ** 21 + n % 2 ** 21
    for n in (0, 1, 77, 33554430, 33554431, -1, -77, -33554431, -33554432):
        yield ("jump", n), number_of("jump") + n % 2 ** 26
    for n in (0, 1, 77, 33554432, 67108862, 67108863):
        for name in ("call", "raise"):
            yield (name, n), number_of(name) + n
    for name in PLAIN:
        yield (name,), number_of(name)


class EncodeTest(unittest.TestCase):

    def test_example_of_the_document(self):
        self.assertEqual(encode(("add", 1, 0, ("int", -1))), 69271551)

    def test_some_words_as_numbers(self):
        for instruction, word in (
            (("halt",), 0), (("add", 0, 0, ("reg", 0)), 1 << 26), (("retry",), 28 << 26), (("tick",), 21 << 26),
            (("put", ("int", 7)), (22 << 26) + 32768 + 7), (("jump", -1), (13 << 26) + 67108863), (("call", 2), (15 << 26) + 2),
            (("branch", 31, -1048576), (14 << 26) + (31 << 21) + 1048576), (("high", 1, 1), (9 << 26) + (1 << 21) + 1),
            (("low", 2, 3, 2047), (10 << 26) + (2 << 21) + (3 << 16) + 32768 + 2047), (("get", 31), (23 << 26) + (31 << 21)),
        ):
            self.assertEqual(encode(instruction), word)

    def test_each_name_and_field(self):
        names = set()
        for instruction, word in all_forms():
            self.assertEqual(encode(instruction), word, instruction)
            self.assertEqual(decode(word), instruction)
            self.assertIs(type(encode(instruction)), int)
            self.assertEqual(instruction_of(word), instruction)
            names.add(instruction[0])
        self.assertEqual(names, set(NAMES))

    def assert_too_large(self, instruction):
        with self.assertRaises(ImageError) as caught:
            encode(instruction)
        self.assertIsInstance(caught.exception, AdaError)
        self.assertIsInstance(caught.exception, ValueError)
        self.assertNotIsInstance(caught.exception, SourceError)

    def beyond(self, low, high):
        """Numbers outside of bounds: one beyond, far beyond, and some that look like a number inside in a few bits."""
        return (low - 1, high + 1, low - 2 ** 31, high + 2 ** 31, low - 2 ** 26, high + 1 + 2 ** 26, HUGE, -HUGE, 2 ** 200, -2 ** 200)

    def test_numbers_that_do_not_fit(self):
        for name, fields in WITH_SOURCE.items():
            right = [number for letter, number in (("d", 3), ("a", 4)) if letter in fields]
            for number in self.beyond(0, 31):
                self.assert_too_large((name, *right, ("reg", number)))
                for at in range(len(right)):
                    self.assert_too_large((name, *right[:at], number, *right[at + 1:], ("int", 5)))
            for number in self.beyond(-16384, 16383):
                self.assert_too_large((name, *right, ("int", number)))
        for number in self.beyond(0, 31):
            for wrong in (("get", number), ("bar", number), ("low", number, 1, 5), ("low", 1, number, 5), ("high", number, 1), ("branch", number, 1)):
                self.assert_too_large(wrong)
        for number in self.beyond(0, 2047):
            self.assert_too_large(("low", 1, 2, number))
        for number in self.beyond(-1048576, 1048575):
            self.assert_too_large(("high", 1, number))
            self.assert_too_large(("branch", 1, number))
        for number in self.beyond(-33554432, 33554431):
            self.assert_too_large(("jump", number))
        for number in self.beyond(0, 67108863):
            self.assert_too_large(("call", number))
            self.assert_too_large(("raise", number))


class DecodeTest(unittest.TestCase):

    def test_ends(self):
        self.assertEqual(decode(0), ("halt",))
        self.assertEqual(decode(2 ** 32 - 1), BAD)

    def test_numbers_of_names(self):
        for number in range(29, 64):
            for rest in (0, 1, 2 ** 26 - 1, 12345):
                self.assertEqual(decode(number * 2 ** 26 + rest), BAD)

    def test_fields_that_an_instruction_does_not_have(self):
        for name in PLAIN:
            for bit in range(26):
                self.assertEqual(decode(number_of(name) + 2 ** bit), BAD)
        for name in ("put", "setbar"):
            for bit in range(16, 26):
                for s in (5, 32768 + 5):
                    self.assertEqual(decode(number_of(name) + 2 ** bit + s), BAD)
        for name in ("again", "below", "above"):
            for bit in range(21, 26):
                for s in (5, 32768 + 5):
                    self.assertEqual(decode(number_of(name) + 2 ** bit + s), BAD)
        for name in ("get", "bar"):
            for bit in range(21):
                self.assertEqual(decode(long_form(name, 7) + 2 ** bit), BAD)

    def test_numbers_of_registers(self):
        for name in WITH_SOURCE:
            for number in (32, 33, 63, 64, 1024, 16384, 16415, 32767):
                self.assertEqual(decode(number_of(name) + number), BAD)
            self.assertEqual(decode(number_of(name) + 31)[-1], ("reg", 31))

    def test_flag_and_bits_of_low(self):
        for low in (0, 5, 31, 2047):
            self.assertEqual(decode(long_form("low", 1, 2, 0, low)), BAD)
        for low in (2048, 2049, 4096, 16384, 32767):
            self.assertEqual(decode(long_form("low", 1, 2, 1, low)), BAD)
        self.assertEqual(decode(long_form("low", 1, 2, 1, 2047)), ("low", 1, 2, 2047))

    def test_flag_of_get_and_bar(self):
        for name in ("get", "bar"):
            self.assertEqual(decode(long_form(name, 3, 0, 1, 0)), BAD)
            self.assertEqual(decode(long_form(name, 3, 0, 0, 0)), (name, 3))

    def test_any_words(self):
        """("bad",) exactly if no instruction has the word."""
        rng = random.Random(1)
        words = [rng.getrandbits(32) for _ in range(20000)]
        for top in range(64):
            for rest in range(300):
                words.append(top * 2 ** 26 + rng.choice((rest, rng.getrandbits(26), rng.getrandbits(16), rng.getrandbits(10) << 16)))
        many = 0
        for word in words:
            instruction = decode(word)
            self.assertEqual(instruction, instruction_of(word))
            if instruction != BAD:
                self.assertEqual(encode(instruction), word)
                many += 1
        self.assertGreater(many, 2000)
        self.assertGreater(len(words) - many, 2000)


if __name__ == "__main__":
    unittest.main()
