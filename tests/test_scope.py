"""Points [18] (regions) and [37]: the class Scopes."""

import unittest

from windowada.errors import DuplicateName, UnknownName
from windowada.scope import Scopes


class ScopesTest(unittest.TestCase):

    def assert_unknown(self, scopes, name, place=(3, 5)):
        with self.assertRaises(UnknownName) as caught:
            scopes.lookup(name, place)
        self.assertIs(type(caught.exception), UnknownName)
        self.assertEqual((caught.exception.line, caught.exception.column), place)

    def test_examples(self):
        scopes = Scopes()
        scopes.enter()
        scopes.declare("a", 1, (1, 1))
        scopes.enter()
        scopes.declare("a", 2, (2, 1))
        self.assertEqual(scopes.lookup("a", (3, 1)), 2)
        scopes = Scopes()
        scopes.enter()
        self.assert_unknown(scopes, "b", (3, 1))

    def test_at_first(self):
        scopes = Scopes()
        self.assertEqual(scopes.open_regions, 0)
        self.assertIs("a" in scopes, False)
        self.assert_unknown(scopes, "a")

    def test_methods_return_nothing(self):
        scopes = Scopes()
        self.assertIsNone(scopes.enter())
        self.assertIsNone(scopes.declare("a", 1, (1, 1)))
        self.assertIsNone(scopes.leave())

    def test_regions_inside_of_one_another(self):
        scopes = Scopes()
        for deep in range(1, 30):
            scopes.enter()
            self.assertEqual(scopes.open_regions, deep)
            scopes.declare(f"n{deep}", deep, (deep, 1))
        for deep in range(29, 0, -1):
            self.assertEqual([scopes.lookup(f"n{at}", (1, 1)) for at in range(1, deep + 1)], list(range(1, deep + 1)))
            self.assertNotIn(f"n{deep + 1}", scopes)
            scopes.leave()
            self.assertEqual(scopes.open_regions, deep - 1)

    def test_an_inner_name_hides_an_outer_one(self):
        scopes = Scopes()
        scopes.enter()
        scopes.declare("a", "outer", (1, 1))
        scopes.enter()
        self.assertEqual(scopes.lookup("a", (2, 1)), "outer")
        scopes.declare("a", "middle", (2, 1))
        scopes.enter()
        self.assertEqual(scopes.lookup("a", (2, 1)), "middle")
        scopes.declare("a", "inner", (3, 1))
        self.assertEqual(scopes.lookup("a", (2, 1)), "inner")
        scopes.leave()
        self.assertEqual(scopes.lookup("a", (2, 1)), "middle")
        scopes.leave()
        self.assertEqual(scopes.lookup("a", (2, 1)), "outer")
        self.assertIs("a" in scopes, True)
        scopes.leave()
        self.assertIs("a" in scopes, False)
        self.assert_unknown(scopes, "a")

    def test_a_second_declaration_in_one_region(self):
        scopes = Scopes()
        scopes.enter()
        scopes.enter()
        scopes.declare("a", 1, (1, 1))
        for meaning in (1, 2, None):
            with self.assertRaises(DuplicateName) as caught:
                scopes.declare("a", meaning, (7, 9))
            self.assertIs(type(caught.exception), DuplicateName)
            self.assertEqual((caught.exception.line, caught.exception.column), (7, 9))
            self.assertEqual(scopes.lookup("a", (1, 1)), 1)
            self.assertEqual(scopes.open_regions, 2)
        scopes.leave()
        scopes.declare("a", 3, (1, 1))
        self.assertEqual(scopes.lookup("a", (1, 1)), 3)

    def test_a_region_that_was_left_is_forgotten(self):
        scopes = Scopes()
        scopes.enter()
        scopes.enter()
        scopes.declare("a", 1, (1, 1))
        scopes.leave()
        scopes.enter()
        self.assert_unknown(scopes, "a")
        scopes.declare("a", 2, (1, 1))
        self.assertEqual(scopes.lookup("a", (1, 1)), 2)

    def test_any_meaning_is_kept_as_it_is(self):
        scopes = Scopes()
        scopes.enter()
        for at, meaning in enumerate((None, False, 0, "", [], {}, (1, 2), object(), len)):
            scopes.declare(f"n{at}", meaning, (1, 1))
            self.assertIs(scopes.lookup(f"n{at}", (1, 1)), meaning)
            self.assertIn(f"n{at}", scopes)

    def test_names_of_all_kinds(self):
        scopes = Scopes()
        scopes.enter()
        for name in ("integer", "enter", "__init__", "a b", "A"):
            self.assertNotIn(name, scopes)
            scopes.declare(name, name, (1, 1))
            self.assertIn(name, scopes)

    def test_looking_changes_nothing(self):
        scopes = Scopes()
        scopes.enter()
        self.assert_unknown(scopes, "a")
        self.assertNotIn("a", scopes)
        self.assertEqual(scopes.open_regions, 1)
        scopes.declare("a", 1, (1, 1))

    def test_two_objects_have_nothing_in_common(self):
        one, other = Scopes(), Scopes()
        one.enter()
        one.declare("a", 1, (1, 1))
        self.assertEqual(other.open_regions, 0)
        self.assertNotIn("a", other)
        other.enter()
        other.declare("a", 2, (1, 1))
        self.assertEqual((one.lookup("a", (1, 1)), other.lookup("a", (1, 1))), (1, 2))

    def test_the_number_of_regions_is_only_read(self):
        with self.assertRaises(AttributeError):
            Scopes().open_regions = 3


if __name__ == "__main__":
    unittest.main()
