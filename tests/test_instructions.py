"""The list of point [73]."""

import unittest

from windowada.instructions import NAMES

LISTED = (
    "halt, add, sub, mul, div, mod, rem, less, equal, high, low, load, store, jump, branch, call, save, restore, back, "
    "raise, again, tick, put, get, below, above, bar, setbar, retry"
)


class InstructionsTest(unittest.TestCase):

    def test_names(self):
        self.assertEqual(NAMES, tuple(LISTED.split(", ")))
        self.assertIs(type(NAMES), tuple)


if __name__ == "__main__":
    unittest.main()
