"""S4.2: rises of loads, the share of a room, and pulls."""

import math
import unittest

from helper import Case, rng_of
from shareforsure.rises import pull, rise, share


class Rises(Case):
    def test_the_examples(self):
        for load, told in ((0, 0), (1, 2), (2, 5)):
            self.tells(told, rise, 2, load)
        self.tells(0, rise, 1, 0)
        self.tells(1, rise, 1, 1)
        for c, told in ((1, (1, 2)), (2, (5, 9)), (3, (37, 64)), (4, (369, 625))):
            self.tells(told, share, c)

    def test_from_nothing_to_all(self):
        for c in range(1, 31):
            sure = (c + 1) ** c - c ** c
            told = [self.value(rise, c, load) for load in range(c + 1)]
            self.assertEqual([(c + 1) ** load * c ** (c - load) - c ** c for load in range(c + 1)], told)
            self.assertEqual(0, told[0])
            self.assertEqual(sure, told[c])
            self.assertEqual(told, sorted(set(told)))

    def test_shares(self):
        for c in range(1, 31):
            p, q = self.value(share, c)
            self.assertEqual(((c + 1) ** c - c ** c, (c + 1) ** c), (p, q))
            self.assertEqual(1, math.gcd(p, q))
            self.assertEqual((tuple, int, int), (type(share(c)), type(p), type(q)))

    def test_pulls(self):
        rng = rng_of(111)
        for c in range(1, 31):
            yard = (c, tuple(rng.choice([1, 10 ** 7, rng.randint(1, 10 ** 7)]) for _ in range(3)))
            sure = (c + 1) ** c - c ** c
            for house, worth in enumerate(yard[1]):
                told = [self.value(pull, yard, house, load) for load in range(c + 1)]
                self.assertEqual([worth * (sure - rise(c, load)) for load in range(c + 1)], told)
                self.assertEqual(0, told[c])
                self.assertEqual(told, sorted(set(told), reverse=True))
                self.assertEqual(worth * sure, told[0])

    def test_pulls_of_a_small_yard(self):
        yard = (2, (1, 4))
        self.assertEqual([[5, 3, 0], [20, 12, 0]], [[pull(yard, house, load) for load in range(3)] for house in (0, 1)])

    def test_a_gift_pays_for_what_it_takes(self):
        # The sum behind S4.4, by which a pull paper's price is E times the given.
        for c in range(1, 31):
            for load in range(c):
                paid = c * (rise(c, load + 1) - rise(c, load)) + pull((c, (1,)), 0, load)
                self.assertEqual(share(c)[1], paid)


if __name__ == "__main__":
    unittest.main()
