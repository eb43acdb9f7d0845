"""S3.3 and S3.4: ranks of lots, how they go on, and what they tell of the most."""

import itertools
import unittest

from helper import Case, all_gifts, requests, rng_of, rows, yards
from shareforsure.most import most_given
from shareforsure.ranks import most_by, no_ranks, ranks_after, ranks_of

Y = (1, (3, 1, 1))
R = ((0, 1), (0, 2), (0,))


def houses_of(lot):
    return [house for house in range(12) if lot // 2 ** house % 2 == 1]


def subsets(lot):
    """The numbers of all lots within a lot."""
    houses = houses_of(lot)
    for size in range(len(houses) + 1):
        for chosen in itertools.combinations(houses, size):
            yield sum(2 ** house for house in chosen)


def after_by_formula(c, ranks, request):
    """The ranks behind one request more, by the last sentence of S3.3."""
    def told(lot, within):
        met = any(house in request for house in houses_of(within))
        return ranks[within] + met + c * len(houses_of(lot - within))
    return tuple(min(told(lot, within) for within in subsets(lot)) for lot in range(len(ranks)))


def rank_by_formula(c, row, lot):
    """The rank of a lot, by the first sentence of S3.3."""
    def told(within):
        rest = houses_of(lot - within)
        return c * len(houses_of(within)) + sum(any(house in rest for house in request) for request in row)
    return min(told(within) for within in subsets(lot))


def most_by_formula(yard, ranks):
    """The most by S3.4, from the greatest worth down."""
    worths = sorted(set(yard[1]), reverse=True)
    most = 0
    for worth, less in zip(worths, worths[1:] + [0]):
        lot = sum(2 ** house for house, other in enumerate(yard[1]) if other >= worth)
        most += (worth - less) * ranks[lot]
    return most


class Ranks(Case):
    def test_the_example(self):
        self.tells((0, 1, 1, 2, 1, 2, 2, 3), ranks_of, 1, 3, R)
        self.tells((0, 1, 1, 2, 1, 2, 2, 2), ranks_of, 1, 3, R[:2])
        self.tells(5, most_by, Y, (0, 1, 1, 2, 1, 2, 2, 3))

    def test_no_requests(self):
        for n in range(9):
            self.tells((0,) * 2 ** n, no_ranks, n)
            self.tells((0,) * 2 ** n, ranks_of, 3, n, ())
            self.tells((0,) * 2 ** n, ranks_of, 3, n, ((), ()))
        self.tells((0,), ranks_of, 1, 0, ((),))
        self.tells((0,), ranks_after, 1, 0, (0,), ())

    def test_against_all_gifts(self):
        rng = rng_of(101)
        for _ in range(250):
            yard = yards(rng, 4, 3, 9)
            n = len(yard[1])
            row = rows(rng, yard, rng.randint(0, 5), 4)
            every = list(all_gifts(yard, row))
            ranks = tuple(max(sum(gift is not None and lot // 2 ** gift % 2 for gift in gifts) for gifts in every)
                          for lot in range(2 ** n))
            self.tells(ranks, ranks_of, yard[0], n, row)
            self.assertEqual(ranks, tuple(rank_by_formula(yard[0], row, lot) for lot in range(2 ** n)))
            self.tells(most_given(yard, row), most_by, yard, ranks)

    def test_request_by_request(self):
        rng = rng_of(102)
        for _ in range(100):
            yard = yards(rng, 5, 3, 9)
            n = len(yard[1])
            row = rows(rng, yard, rng.randint(0, 9), 5)
            ranks = no_ranks(n)
            for end, request in enumerate(row):
                ranks = self.value(ranks_after, yard[0], n, ranks, request)
                self.assertEqual(ranks_of(yard[0], n, row[:end + 1]), ranks)
            other = list(row)
            rng.shuffle(other)
            self.tells(ranks, ranks_of, yard[0], n, tuple(other))
            self.tells(ranks, ranks_of, yard[0], n, other)

    def test_any_numbers_go_by_the_formulas(self):
        rng = rng_of(103)
        for at in range(300):
            n = rng.randint(0, 4)
            c = rng.randint(1, 4)
            ranks = tuple(rng.randint(0, rng.choice([3, 9, 10 ** 20])) for _ in range(2 ** n))
            request = requests(rng, (c, (1,) * n), n)
            self.tells(after_by_formula(c, ranks, request), ranks_after, c, n, ranks, request)
            if n > 0:
                yard = (c, tuple(rng.randint(1, 4 if at % 2 else 10 ** 9) for _ in range(n)))
                self.tells(most_by_formula(yard, ranks), most_by, yard, ranks)

    def test_the_lots_with_none_and_all(self):
        # The number of () stays; () is a lot within each, and so is each lot itself.
        self.tells((7, 8), ranks_after, 1, 1, (7, 20), (0,))
        self.tells((7, 5), ranks_after, 1, 1, (7, 4), (0,))
        self.tells((7, 4), ranks_after, 1, 1, (7, 4), ())
        self.tells((0, 2, 2, 4), ranks_after, 2, 2, (0, 9, 9, 9), (1,))
        self.tells(9 * 2 + 5 * 1, most_by, (1, (2, 3)), (100, 100, 5, 9))

    def test_eight_houses(self):
        rng = rng_of(104)
        for c, many, most, worth in ((1, 12, 3, 4), (60, 300, 8, 10 ** 9), (30, 300, 2, 2), (5, 60, 2, 10 ** 9)):
            yard = (c, tuple(rng.randint(1, worth) for _ in range(8)))
            row = tuple(requests(rng, yard, most) for _ in range(many))
            ranks = ranks_of(c, 8, row)
            self.assertEqual(2 ** 8, len(ranks))
            self.assertEqual(most_given(yard, row), most_by(yard, ranks))
            for lot in rng.sample(range(2 ** 8), 6):
                self.assertEqual(rank_by_formula(c, row, lot), ranks[lot])

    def test_equal_worths(self):
        self.tells(6, most_by, (1, (2, 2)), (9, 9, 9, 3))
        self.tells(3, most_by, (1, (1,)), (9, 3))
        self.tells(0, most_by, (1, (10 ** 9,)), (0, 0))


if __name__ == "__main__":
    unittest.main()
