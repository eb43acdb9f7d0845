"""0.3 and 0.4: names and numbers."""

import unittest

from helper import Case, ODD
from shareforsure.words import is_name, is_number


class Names(Case):
    def test_names(self):
        for value in ("a", "z", "a0", "z9", "abcdefghijkl", "a12345678901", "row", "x"):
            self.tells(True, is_name, value)

    def test_no_names(self):
        for value in ("", "abcdefghijklm", "a123456789012", "0", "9a", "A", "aB", "a_", "a b", " a", "a ", "a\n",
                      "a\t", "-a", "a-", "a{", "a`", "`", "@", "/", ":", "a/", "a:"):
            self.tells(False, is_name, value)

    def test_what_is_no_string_is_no_name(self):
        for value in (None, True, False, 0, 1, -1, (), ("a",), [], ["a"], {}, {"a": 1}, 10 ** 39):
            self.tells(False, is_name, value)


class Numbers(Case):
    def test_numbers(self):
        for value in (0, 1, 2, 12, 10 ** 39):
            self.tells(True, is_number, value)

    def test_no_numbers(self):
        for value in (-1, -10 ** 39, True, False, None, "", "0", "1", (), (1,), [], [1], {}):
            self.tells(False, is_number, value)

    def test_answers_are_plain(self):
        for value in ODD:
            self.assertIn(is_name(value), (True, False))
            self.assertIs(bool, type(is_name(value)))
            self.assertIs(bool, type(is_number(value)))


if __name__ == "__main__":
    unittest.main()
