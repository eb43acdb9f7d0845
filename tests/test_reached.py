"""S3.2: which loads gifts can have, and the lots that bar the others."""

import itertools
import unittest

from helper import Case, all_gifts, requests, rng_of, rows, yards
from shareforsure.gifts import gifts_fault, loads_of
from shareforsure.reached import bar_for, gifts_with

Y = (1, (3, 1, 1))
R = ((0, 1), (0, 2), (0,))


class Reached(Case):
    def looked_at(self, yard, row, loads):
        """Whether the loads are reached; what shows it is looked through."""
        gifts = self.value(gifts_with, yard, row, loads)
        lot = self.value(bar_for, yard, row, loads)
        if lot is None:
            self.assertIs(tuple, type(gifts))
            self.assertIsNone(gifts_fault(yard, row, gifts))
            self.assertEqual(loads, loads_of(yard, gifts))
            return True
        self.assertIsNone(gifts)
        self.assertIs(tuple, type(lot))
        self.assertEqual(sorted(set(lot)), list(lot))
        naming = [request for request in row if any(house in lot for house in request)]
        self.assertGreater(sum(loads[house] for house in lot), len(naming))
        return False

    def test_the_examples(self):
        self.assertTrue(self.looked_at(Y, R, (1, 0, 1)))
        self.assertTrue(self.looked_at(Y, R, (1, 1, 1)))
        self.tells((1, 2, 0), gifts_with, Y, R, (1, 1, 1))
        self.tells(None, bar_for, Y, R, (1, 1, 1))
        self.tells((0, 1, 2), bar_for, Y, R[:2], (1, 1, 1))
        self.tells(None, gifts_with, Y, R[:2], (1, 1, 1))

    def test_all_loads_of_small_rows(self):
        rng = rng_of(91)
        barred = 0
        for _ in range(250):
            yard = yards(rng, 3, 3, 9)
            row = rows(rng, yard, rng.randint(0, 5), 3)
            reached = {loads_of(yard, gifts) for gifts in all_gifts(yard, row)}
            for loads in itertools.product(range(yard[0] + 1), repeat=len(yard[1])):
                self.assertEqual(loads in reached, self.looked_at(yard, row, loads))
                barred += loads not in reached
        self.assertGreater(barred, 500)

    def test_no_loads(self):
        self.tells((None,) * 3, gifts_with, Y, R, (0, 0, 0))
        self.tells((), gifts_with, Y, (), (0, 0, 0))
        self.tells(None, bar_for, Y, (), (0, 0, 0))
        self.tells((None, None), gifts_with, Y, ((), ()), (0, 0, 0))

    def test_empty_rows_and_requests_bar_all_else(self):
        self.tells((1,), bar_for, Y, (), (0, 1, 0))
        self.tells((2,), bar_for, Y, ((), (), (0,), (0, 1)), (0, 0, 1))
        self.tells(None, gifts_with, Y, ((), ()), (1, 0, 0))
        self.assertTrue(self.looked_at(Y, ((), (2,), ()), (0, 0, 1)))

    def test_full_loads(self):
        self.tells((0,) * 60, gifts_with, (60, (1,)), ((0,),) * 60, (60,))
        self.tells((0,), bar_for, (60, (1,)), ((0,),) * 59, (60,))
        self.tells((0,) * 60 + (None,), gifts_with, (60, (1,)), ((0,),) * 61, (60,))
        self.assertTrue(self.looked_at((3, (1, 1)), ((0, 1),) * 6, (3, 3)))
        self.tells((0, 1), bar_for, (3, (1, 1)), ((0, 1),) * 5, (3, 3))

    def test_eight_houses(self):
        rng = rng_of(92)
        both = set()
        for c, many, most in ((1, 8, 3), (2, 16, 2), (5, 40, 3), (60, 300, 8), (37, 300, 2), (40, 300, 3)):
            yard = (c, (1,) * 8)
            for _ in range(6):
                row = tuple(requests(rng, yard, most) for _ in range(many))
                least = rng.choice([0, c // 2, c - 1])
                both.add(self.looked_at(yard, row, tuple(rng.randint(least, c) for _ in range(8))))
            both.add(self.looked_at(yard, row, (c,) * 8))
        self.assertEqual({True, False}, both)

    def test_requests_are_moved_along(self):
        row = tuple((house, house + 1) for house in range(7)) + ((0,),)
        for asked in (row, row[::-1]):
            self.assertTrue(self.looked_at((1, (1,) * 8), asked, (1,) * 8))
            self.assertFalse(self.looked_at((2, (1,) * 8), asked, (2,) + (1,) * 7))


if __name__ == "__main__":
    unittest.main()
