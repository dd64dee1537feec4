"""Choosing integers and strings (point 18)."""

import unittest

from patchkept import leaves
from patchkept.leaves import fresh_name, pick_int, pick_text
from tests.helpers import check_interface

BIG = 10 ** 60
CHARACTERS = [chr(code) for code in range(32, 127) if chr(code) != "%"]


class Interface(unittest.TestCase):
    def test_names_and_arguments(self):
        listed = {"pick_int": ["low", "high"], "pick_text": ["low", "high", "excluded"], "fresh_name": ["names"]}
        check_interface(self, leaves, listed)


class Ints(unittest.TestCase):
    def test_an_integer_within_the_bounds(self):
        bounds = [None, 0, 1, -1, 7, -7, BIG, BIG + 1, -BIG, BIG - 1]
        for low in bounds:
            for high in bounds:
                with self.subTest(low=low, high=high):
                    picked = pick_int(low, high)
                    if low is not None and high is not None and low > high:
                        self.assertIsNone(picked)
                    else:
                        self.assertIs(type(picked), int)
                        self.assertTrue(low is None or picked >= low)
                        self.assertTrue(high is None or picked <= high)


class Texts(unittest.TestCase):
    def check(self, low, high, excluded):
        """A string by the bounds, or None."""
        listed = list(excluded)
        picked = pick_text(low, high, listed)
        self.assertEqual(listed, list(excluded))
        self.assertEqual(picked, pick_text(low, high, listed))
        if picked is not None:
            self.assertIs(type(picked), str)
            self.assertGreaterEqual(len(picked), low)
            self.assertTrue(high is None or len(picked) <= high)
            self.assertNotIn(picked, excluded)
            self.assertLessEqual(set(picked), set(CHARACTERS))
        return picked

    def test_lengths(self):
        for low in (0, 1, 2, 30, 59, 60):
            for high in (0, 1, 2, 30, 59, 60, None):
                with self.subTest(low=low, high=high):
                    picked = self.check(low, high, [])
                    self.assertEqual(picked is None, high is not None and low > high)

    def test_the_empty_string(self):
        self.assertEqual(self.check(0, 0, []), "")
        self.assertEqual(self.check(0, 0, ["a"]), "")
        self.assertIsNone(self.check(0, 0, [""]))
        self.assertEqual(len(self.check(0, 1, [""])), 1)
        self.assertIsNotNone(self.check(0, None, [""]))

    def test_all_strings_of_one_character_but_one(self):
        for left in CHARACTERS:
            self.assertEqual(self.check(1, 1, [other for other in CHARACTERS if other != left]), left)
        self.assertIsNone(self.check(1, 1, CHARACTERS))
        self.assertEqual(len(self.check(1, 2, CHARACTERS)), 2)
        self.assertEqual(len(self.check(0, None, CHARACTERS + [""])), 2)

    def test_many_strings_are_excluded(self):
        self.assertIsNotNone(self.check(1, 1, CHARACTERS[:70]))
        self.assertIsNotNone(self.check(1, 1, CHARACTERS[24:]))
        self.assertIsNotNone(self.check(2, 2, [first + "a" for first in CHARACTERS[:80]]))
        excluded = []
        for _ in range(80):
            excluded.append(self.check(60, 60, excluded))
        self.assertEqual(len(set(excluded)), 80)

    def test_a_string_that_stands_twice_counts_once(self):
        self.assertIsNotNone(self.check(0, 1, CHARACTERS[:60] * 3))


class FreshNames(unittest.TestCase):
    def test_again_and_again(self):
        names = []
        for _ in range(300):
            before = list(names)
            name = fresh_name(names)
            self.assertEqual(names, before)
            self.assertIs(type(name), str)
            self.assertNotIn(name, names)
            self.assertLessEqual(set(name), set(CHARACTERS))
            self.assertEqual(name, fresh_name(list(names)))
            names.append(name)

    def test_beside_given_names(self):
        for names in ([], ["", "a", "b"], ["a", "a", "a"], CHARACTERS, CHARACTERS + [""]):
            self.assertNotIn(fresh_name(names), names)


if __name__ == "__main__":
    unittest.main()
