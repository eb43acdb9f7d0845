"""S3.5: covers, their prices, and that the least price is the most."""

import itertools
import unittest

from helper import Case, ODD, all_gifts, deep, most_by_places, put, requests, rng_of, rows, yards
from shareforsure.covers import cover, cover_price, judge_cover
from shareforsure.gifts import given_of
from shareforsure.most import most_given

Y = (1, (3, 1, 1))
R = ((0, 1), (0, 2), (0,))
V = ((2, 0, 0), (1, 1, 1))


def fault_by_hand(yard, row, value):
    """The first fault of a pair in form."""
    for request, named in enumerate(row):
        for house in named:
            if value[0][house] + value[1][request] < yard[1][house]:
                return ("short", request, house)
    return None


class Least(Case):
    def shows(self, yard, row, most):
        told = self.value(cover, yard, row)
        self.tells(None, judge_cover, yard, row, told)
        self.tells(most, cover_price, yard, told)
        self.assertEqual((tuple, tuple, tuple), (type(told), type(told[0]), type(told[1])))

    def test_the_example(self):
        self.shows(Y, R, 5)
        self.tells(None, judge_cover, Y, R, V)
        self.tells(5, cover_price, Y, V)

    def test_nothing_to_give(self):
        self.tells(((0, 0, 0), ()), cover, Y, ())
        self.tells(((0, 0, 0), (0, 0)), cover, Y, ((), ()))
        self.shows((5, (7,)), ((0,), (), (0,)), 14)
        self.shows((1, (7,)), ((0,), (), (0,)), 7)

    def test_small_rows(self):
        rng = rng_of(81)
        for at in range(500):
            yard = yards(rng, 4, 3, 1 if at % 5 == 0 else 5)
            row = rows(rng, yard, rng.randint(0, 6), 4)
            self.shows(yard, row, max(given_of(yard, gifts) for gifts in all_gifts(yard, row)))

    def test_rows_up_to_the_limits(self):
        rng = rng_of(82)
        for c, many, most, worth in ((1, 120, 3, 10 ** 9), (1, 130, 80, 10 ** 9), (2, 200, 4, 5), (3, 300, 2, 10 ** 9),
                                     (60, 300, 5, 10 ** 9), (60, 300, 80, 3), (4, 300, 3, 1), (1, 90, 2, 9)):
            yard = (c, tuple(rng.randint(1, worth) for _ in range(80)))
            row = rows(rng, yard, many, most)
            told = cover(yard, row)
            self.assertIsNone(judge_cover(yard, row, told))
            self.assertEqual(most_by_places(yard, row), cover_price(yard, told))
            self.assertEqual(most_given(yard, row), cover_price(yard, told))

    def test_long_ways_from_room(self):
        # One house with room leads to all others, the last one by eighty steps.
        row = tuple((house, house + 1) for house in range(79)) + ((79,),)
        for worths in ((4,) * 80, tuple(range(1, 81)), tuple(range(80, 0, -1))):
            for asked in (row, row[:-1], row[::-1], row * 2):
                told = cover((1, worths), asked)
                self.assertIsNone(judge_cover((1, worths), asked, told))
                self.assertEqual(most_by_places((1, worths), asked), cover_price((1, worths), told))

    def test_nobody_gives_more_than_the_price_of_any_cover(self):
        rng = rng_of(83)
        for _ in range(200):
            yard = yards(rng, 3, 2, 3)
            row = rows(rng, yard, rng.randint(0, 4), 3)
            most = most_given(yard, row)
            for _ in range(20):
                value = (tuple(rng.randint(0, 3) for _ in yard[1]), tuple(rng.randint(0, 3) for _ in row))
                if judge_cover(yard, row, value) is None:
                    self.assertGreaterEqual(cover_price(yard, value), most)


class Prices(Case):
    def test_any_pair(self):
        self.tells(0, cover_price, Y, ((), ()))
        self.tells(6, cover_price, Y, ((), (1, 2, 3)))
        self.tells(15, cover_price, (3, (1,)), ((2, 3), ()))
        self.tells(3 * 10 ** 20 + 1, cover_price, (3, (1,)), ((10 ** 20,), (0, 1)))

    def test_by_hand(self):
        rng = rng_of(84)
        for _ in range(100):
            yard = yards(rng, 5, 60, 9)
            value = tuple(tuple(rng.randint(0, 99) for _ in range(rng.randint(0, 6))) for _ in range(2))
            self.tells(sum(yard[0] * number for number in value[0]) + sum(value[1]), cover_price, yard, value)


class Faults(Case):
    def wrong(self, fault, value):
        self.tells(fault, judge_cover, Y, R, value)

    def test_form(self):
        for value in ((V[0],), V + ((),), list(V), (list(V[0]), V[1]), (V[0], list(V[1])), ((2, 0), V[1]),
                      (V[0] + (0,), V[1]), (V[0], (1, 1)), (V[0], (1, 1, 1, 1)), (V[1], ()), ((), V[1])):
            self.wrong(("form",), value)
        for side, at in itertools.product(range(2), range(3)):
            for odd in ODD + [deep(1)]:
                right = isinstance(odd, int) and not isinstance(odd, bool) and odd >= 0
                if not right:
                    self.wrong(("form",), put(V, side, put(V[side], at, odd)))

    def test_form_is_told_ahead_of_what_is_short(self):
        self.wrong(("form",), ((0, 0, 0), (0, 0, None)))
        self.wrong(("form",), ((0, 0, True), (0, 0, 0)))

    def test_short(self):
        self.wrong(("short", 0, 0), ((0, 0, 0), (0, 0, 0)))
        self.wrong(("short", 0, 1), ((3, 0, 0), (0, 0, 0)))
        self.wrong(("short", 1, 0), ((2, 0, 0), (1, 0, 0)))
        self.wrong(("short", 1, 2), ((3, 1, 0), (0, 0, 0)))
        self.wrong(("short", 2, 0), ((2, 0, 0), (1, 1, 0)))
        self.wrong(None, ((3, 1, 1), (0, 0, 0)))
        self.wrong(None, ((0, 0, 0), (3, 3, 3)))
        self.wrong(None, ((10 ** 39, 1, 1), (0, 0, 10 ** 39)))

    def test_any_pairs(self):
        rng = rng_of(85)
        for _ in range(800):
            yard = yards(rng, 4, 2, 3)
            row = rows(rng, yard, rng.randint(0, 4), 4)
            value = (tuple(rng.randint(0, 3) for _ in yard[1]), tuple(rng.randint(0, 3) for _ in row))
            self.tells(fault_by_hand(yard, row, value), judge_cover, yard, row, value)

    def test_odd_values(self):
        for odd in ODD + [deep(())]:
            self.wrong(("form",), odd)
            self.wrong(("form",), (odd, V[1]))
            self.wrong(("form",), (V[0], odd))
        for odd in ODD:
            self.tells(None if odd == ((0,), (0,)) else ("form",), judge_cover, (1, (9,)), ((),), odd)

    def test_more_than_the_limits(self):
        rng = rng_of(86)
        yard = (3, tuple(rng.randint(1, 10 ** 9) for _ in range(300)))
        row = tuple(requests(rng, yard, 10) for _ in range(2000))
        self.assertIsNone(judge_cover(yard, row, (yard[1], (0,) * len(row))))
        row += ((299,),)
        value = (put(yard[1], 299, yard[1][299] - 1), (1,) * 2000 + (0,))
        self.assertEqual(("short", 2000, 299), judge_cover(yard, row, value))


if __name__ == "__main__":
    unittest.main()
