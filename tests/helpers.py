"""What several tests use."""

import unittest

from windowada.checkdecl import check
from windowada.declarations import parse
from windowada.errors import SourceError
from windowada.runcall import run_source


def is_pair(part):
    """Returns True for a place and for a choice."""
    return isinstance(part, tuple) and len(part) == 2 and type(part[0]) is int and type(part[1]) is int


def strip_places(tree):
    """Returns a tree with (0, 0) instead of each place, which is the last part of its tuple."""
    if not isinstance(tree, tuple) or is_pair(tree):
        return tree
    parts = [strip_places(part) for part in tree]
    if len(parts) > 1 and is_pair(tree[-1]) and not is_pair(tree[0]):
        parts[-1] = (0, 0)
    return tuple(parts)


def with_own_places(tree):
    """Returns a tree in which each node has a place of its own."""
    used = [0]

    def walk(part):
        if not isinstance(part, tuple) or is_pair(part):
            return part
        if len(part) > 1 and is_pair(part[-1]) and not is_pair(part[0]):
            used[0] += 1
            return (*[walk(inner) for inner in part[:-1]], (used[0] // 7 + 1, used[0]))
        return tuple(walk(inner) for inner in part)

    return walk(tree)


def run(text, inputs=(), fuel=100000):
    """Returns the result of the run of a text."""
    return run_source(check(parse(text)), list(inputs), fuel=fuel)


def put_by(text, inputs=(), fuel=100000):
    """Returns the words that a text puts out, and the ending."""
    events, ending = run(text, inputs, fuel)
    return [word for name, word in events if name == "put"], ending


def marked(text):
    """Returns the text without its first @, and the place of the character behind it."""
    before, behind = text.split("@")
    return before + behind, (before.count("\n") + 1, len(before) - before.rfind("\n"))


class SourceCase(unittest.TestCase):
    """A test case that can look at the errors of a text."""

    def assert_error(self, kind, place, function, *arguments):
        """Looks whether a call raises an error of exactly this class, with this place unless it is None."""
        with self.assertRaises(SourceError) as caught:
            function(*arguments)
        self.assertIs(type(caught.exception), kind, str(caught.exception))
        self.assertGreaterEqual(caught.exception.line, 1)
        self.assertGreaterEqual(caught.exception.column, 1)
        if place is not None:
            self.assertEqual((caught.exception.line, caught.exception.column), place)

    def assert_parse_error(self, kind, text, function=parse):
        """The same for a text in which @ stands before the wrong place."""
        whole, place = marked(text)
        self.assert_error(kind, place, function, whole)

    def assert_rejected(self, kind, text):
        """Looks whether check rejects a text at the place before which @ stands."""
        whole, place = marked(text)
        tree = parse(whole)
        self.assert_error(kind, place, check, tree)

    def assert_accepted(self, text):
        """Looks whether check accepts a text."""
        return check(parse(text))
