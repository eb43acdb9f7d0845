"""S9.6: books, and what they come to."""

import unittest

from helper import Case, rng_of
from shareforsure.books import earned, total

BOOKS = [(1, "r1", "a", 1), (3, "r2", "b", 3), (4, "r3", None, 0), (6, "r4", "a", 5), (7, "none", "none", 2)]


class Books(Case):
    def test_totals(self):
        self.tells(11, total, BOOKS)
        self.tells(11, total, tuple(BOOKS))
        self.tells(0, total, [])
        self.tells(0, total, [(0, "r", None, 0)])

    def test_what_houses_have_earned(self):
        self.assertEqual({"a": 6, "b": 3, "none": 2}, self.value(earned, BOOKS))
        self.assertEqual({"a": 6, "b": 3, "none": 2}, self.value(earned, tuple(BOOKS)))
        self.tells({}, earned, [])
        self.tells({}, earned, [(0, "r", None, 0), (1, "s", None, 0)])

    def test_drawn_books(self):
        rng = rng_of(931)
        for _ in range(50):
            books = []
            for number in range(rng.randint(0, 30)):
                house = rng.choice([None, "a", "b", "c", "none"])
                books.append((number, f"r{number}", house, 0 if house is None else rng.randint(1, 10 ** 7)))
            told = self.value(earned, books)
            self.assertEqual(sum(entry[3] for entry in books), self.value(total, books))
            self.assertEqual({entry[2] for entry in books} - {None}, set(told))
            for house, amount in told.items():
                self.assertEqual(sum(entry[3] for entry in books if entry[2] == house), amount)
            self.assertEqual(dict, type(told))


if __name__ == "__main__":
    unittest.main()
