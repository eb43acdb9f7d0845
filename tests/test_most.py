"""S3.1, S3.4 and S3.7: the most of a row, best gifts, and the most so far."""

import unittest

from helper import Case, all_gifts, most_by_places, requests, rng_of, rows, yards
from shareforsure.gifts import gifts_fault, given_of
from shareforsure.most import best_gifts, most_given, most_so_far

Y = (1, (3, 1, 1))
R = ((0, 1), (0, 2), (0,))


class Small(Case):
    def test_the_example(self):
        self.tells(5, most_given, Y, R)
        self.tells([3, 4, 5], most_so_far, Y, R)
        self.tells((1, 2, 0), best_gifts, Y, R)

    def test_the_empty_row_and_empty_requests(self):
        self.tells((), best_gifts, Y, ())
        self.tells(0, most_given, Y, ())
        self.tells([], most_so_far, Y, ())
        self.tells((None, None), best_gifts, Y, ((), ()))
        self.tells(0, most_given, Y, ((),))
        self.tells([0, 3, 3], most_so_far, Y, ((), (0, 1), ()))

    def test_one_house(self):
        self.tells((0, 0, None), best_gifts, (2, (7,)), ((0,),) * 3)
        self.tells([7, 14, 14, 14], most_so_far, (2, (7,)), ((0,),) * 4)

    def test_requests_are_moved_for_a_greater_worth(self):
        self.tells([5, 9], most_so_far, (1, (5, 4)), ((0, 1), (0,)))
        self.tells([5, 9, 9], most_so_far, (1, (5, 4)), ((0, 1), (0,), (0, 1)))
        self.tells([1, 6], most_so_far, (1, (1, 5)), ((0,), (0, 1)))

    def test_all_gifts_there_are(self):
        rng = rng_of(71)
        for at in range(500):
            yard = yards(rng, 4, 3, 1 if at % 4 == 0 else 4)
            row = rows(rng, yard, rng.randint(0, 6), 4)
            most = max(given_of(yard, gifts) for gifts in all_gifts(yard, row))
            self.tells(most, most_given, yard, row)
            best = self.value(best_gifts, yard, row)
            self.assertIs(tuple, type(best))
            self.assertIsNone(gifts_fault(yard, row, best))
            self.assertEqual(most, given_of(yard, best))
            self.assertEqual(most, most_by_places(yard, row))

    def test_the_most_so_far(self):
        rng = rng_of(72)
        for _ in range(300):
            yard = yards(rng, 5, 3, 5)
            row = rows(rng, yard, rng.randint(0, 12), 4)
            mosts = self.value(most_so_far, yard, row)
            self.assertEqual([most_given(yard, row[:end + 1]) for end in range(len(row))], mosts)
            self.assertEqual([most_by_places(yard, row[:end + 1]) for end in range(len(row))], mosts)
            for before, after in zip([0] + mosts, mosts):
                self.assertIn(after - before, (0, *yard[1]))

    def test_lists_are_new(self):
        most_so_far(Y, R).append(0)
        self.tells([3, 4, 5], most_so_far, Y, R)


class Great(Case):
    def held(self, yard, row):
        most = most_given(yard, row)
        best = best_gifts(yard, row)
        self.assertIsNone(gifts_fault(yard, row, best))
        self.assertEqual(most, given_of(yard, best))
        self.assertEqual(most, most_by_places(yard, row))
        mosts = most_so_far(yard, row)
        self.assertEqual(len(row), len(mosts))
        self.assertEqual(most, mosts[-1])
        for before, after in zip([0] + mosts, mosts):
            self.assertIn(after - before, (0, *yard[1]))

    def test_yards_of_eighty_houses(self):
        rng = rng_of(73)
        for c, many, most, worth in ((1, 120, 3, 10 ** 9), (1, 300, 80, 10 ** 9), (2, 200, 4, 5), (3, 300, 2, 10 ** 9),
                                     (60, 300, 5, 10 ** 9), (60, 300, 80, 3), (4, 300, 3, 1)):
            yard = (c, tuple(rng.randint(1, worth) for _ in range(80)))
            self.held(yard, rows(rng, yard, many, most))

    def test_long_moves(self):
        # Each request that comes moves all that came before.
        houses = 80
        for worths in ((1,) * houses, tuple(range(1, houses + 1)), tuple(range(houses, 0, -1))):
            row = tuple((house, house + 1) for house in range(houses - 1)) + ((0,), (0,), (houses - 1,))
            self.held((1, worths), row)
            self.held((1, worths), row[::-1])
            self.held((3, worths), row * 3)

    def test_many_for_few_houses(self):
        rng = rng_of(74)
        yard = (60, (9, 7, 5, 3, 1))
        self.held(yard, tuple(requests(rng, yard, 2) for _ in range(300)))


if __name__ == "__main__":
    unittest.main()
