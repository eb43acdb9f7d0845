"""S7.1, S7.2, S7.4 and S7.5: raising requests, gifts that are let, values of standings, and best shares."""

import functools
import itertools
import math
import unittest
from fractions import Fraction

from helper import Case, by_share, most_by_places, outcome, put, rng_of, rows, some_gifts, tables
from shareforsure.games import best_share, led, lets, raises, value
from shareforsure.gifts import given_of as given_by
from shareforsure.gifts import loads_of
from shareforsure.leastshares import least_share
from shareforsure.most import most_given
from shareforsure.ranks import ranks_of
from shareforsure.standings import first_standing
from shareforsure.tables import greedy_table, requests_of, told_table
from test_tables import GREAT, SMALL

TINY = [(1, (1,)), (2, (3,)), (1, (5, 2)), (1, (1, 1)), (1, (2, 2)), (1, (1, 3, 2))]
KNOWN = [((1, (1, 2, 3)), (3, 5)), ((2, (1, 1)), (2, 3)), ((4, (1, 1)), (5, 7)), ((2, (1, 1, 1)), (3, 5)),
         ((3, (2, 3)), (11, 15)), ((1, (1, 1)), (1, 2)), ((1, (5, 2)), (5, 7)), ((1, (6, 4)), (3, 5))]


def lots_of(n):
    """All lots of so many houses, by their numbers."""
    return [[house for house in range(n) if number >> house & 1] for number in range(1 << n)]


@functools.cache
def row_behind(c, n, ranks, request):
    """The rank row behind a request, by the last sentence of S3.3, lot by lot."""
    lots = lots_of(n)
    found = []
    for lot in lots:
        within = [(number, other) for number, other in enumerate(lots) if set(other) <= set(lot)]
        found.append(min(ranks[number] + bool(set(other) & set(request)) + c * (len(lot) - len(other))
                         for number, other in within))
    return tuple(found)


def ranks_by_places(yard, row):
    """The rank row of a row: the most that each lot gets, each house being worth 1."""
    c, worths = yard
    found = []
    for lot in lots_of(len(worths)):
        within = tuple(tuple(house for house in request if house in lot) for request in row)
        found.append(most_by_places((c, (1,) * len(worths)), within))
    return tuple(found)


def some_standings(rng, yard, many):
    """Standings that gifts for rows lead to, with the rows."""
    for _ in range(many):
        row = rows(rng, yard, rng.randint(0, 2 + yard[0] * len(yard[1])), len(yard[1]))
        gifts = some_gifts(rng, yard, row, rng.choice([0, 0.3]))
        yield row, (loads_of(yard, gifts), ranks_of(yard[0], len(yard[1]), row))


def any_standings(rng, yard, many):
    """Standings in form, with any numbers as ranks."""
    for _ in range(many):
        loads = tuple(rng.randint(0, yard[0]) for _ in yard[1])
        numbers = rng.choice([[0, 1, 2], [0, 1, 2, 3, 4, 5, 6], [0, 1, 10 ** 39]])
        yield loads, tuple(rng.choice(numbers) for _ in range(1 << len(yard[1])))


def value_by_rows(yard, row=(), gifts=()):
    """The value ahead of all further requests, by trying all rows of at most c * n requests and all gifts."""
    most = most_given(yard, row)
    least = Fraction(given_by(yard, gifts), most) if most else Fraction(1)
    if len(row) == yard[0] * len(yard[1]):
        return least
    loads = loads_of(yard, gifts)
    for request in requests_of(yard)[1:]:
        let = [None] + [house for house in request if loads[house] < yard[0]]
        least = min(least, max(value_by_rows(yard, row + (request,), gifts + (gift,)) for gift in let))
    return least


def values_by_ranks(yard):
    """The values of all standings that gifts lead to, told from the highest ranks back."""
    c, worths = yard
    first = ((0,) * len(worths), (0,) * (1 << len(worths)))
    found, waiting = {first: None}, [first]
    for standing in waiting:
        loads, ranks = standing
        for request in requests_of(yard):
            after = row_behind(c, len(worths), ranks, request)
            for gift in [None] + [house for house in request if loads[house] < c]:
                other = (put(loads, gift, loads[gift] + 1) if gift is not None else loads, after)
                if other not in found:
                    found[other] = None
                    waiting.append(other)
    for standing in sorted(waiting, key=lambda at: -at[1][-1]):
        loads, ranks = standing
        given = sum(load * worth for load, worth in zip(loads, worths))
        most = most_by_levels(yard, ranks)
        values = [Fraction(given, most) if most else Fraction(1)]
        for request in requests_of(yard):
            after = row_behind(c, len(worths), ranks, request)
            if after != ranks:
                let = [None] + [house for house in request if loads[house] < c]
                values.append(max(found[put(loads, gift, loads[gift] + 1) if gift is not None else loads, after]
                                  for gift in let))
        found[standing] = min(values)
    return found


@functools.cache
def most_by_levels(yard, ranks):
    """The most by a rank row, S3.4, each level by itself."""
    worths = yard[1]
    levels = sorted(set(worths), reverse=True)
    return sum((level - below) * ranks[sum(1 << house for house, worth in enumerate(worths) if worth >= level)]
               for level, below in zip(levels, levels[1:] + [0]))


class Leads(Case):
    def test_an_example(self):
        yard, first = (1, (1, 1)), ((0, 0), (0, 0, 0, 0))
        self.tells(True, raises, yard, first, (0, 1))
        self.tells(False, raises, yard, first, ())
        self.tells([None, 0, 1], lets, yard, first, (0, 1))
        self.tells([None], lets, yard, first, ())
        self.tells(((1, 0), (0, 1, 1, 1)), led, yard, first, (0, 1), 0)
        self.tells(((0, 0), (0, 1, 1, 1)), led, yard, first, (0, 1), None)
        second = ((1, 0), (0, 1, 0, 1))
        self.tells(False, raises, yard, second, (0,))
        self.tells([None], lets, yard, second, (0,))
        self.tells([None, 1], lets, yard, second, (0, 1))
        self.tells(True, raises, yard, second, (0, 1))

    def test_against_another_reckoning_of_the_ranks(self):
        rng = rng_of(701)
        for yard in SMALL:
            for row, standing in some_standings(rng, yard, 4):
                self.assertEqual(ranks_by_places(yard, row), standing[1])
                for request in requests_of(yard):
                    after = ranks_by_places(yard, row + (request,))
                    self.tells(after != standing[1], raises, yard, standing, request)
                    let = [None] + [house for house in request if standing[0][house] < yard[0]]
                    self.tells(let, lets, yard, standing, request)
                    for gift in let:
                        loads = standing[0] if gift is None else put(standing[0], gift, standing[0][gift] + 1)
                        self.tells((loads, after), led, yard, standing, request, gift)

    def test_any_numbers_as_ranks(self):
        rng = rng_of(702)
        by_nothing = 0
        for yard in SMALL:
            for standing in any_standings(rng, yard, 12):
                for request in requests_of(yard):
                    after = row_behind(yard[0], len(yard[1]), standing[1], request)
                    self.assertEqual(after[0], standing[1][0])
                    self.tells(after != standing[1], raises, yard, standing, request)
                    by_nothing += request == () and after != standing[1]
                    let = [None] + [house for house in request if standing[0][house] < yard[0]]
                    self.tells(let, lets, yard, standing, request)
                    gift = rng.choice(let)
                    self.assertEqual(after, self.value(led, yard, standing, request, gift)[1])
        self.assertGreater(by_nothing, 20)

    def test_ranks_that_no_row_has(self):
        yard = (1, (3,))
        # 5 is more than one house can have: even () makes it less.
        self.tells(True, raises, yard, ((0,), (0, 5)), ())
        self.tells(((0,), (0, 1)), led, yard, ((0,), (0, 5)), (), None)
        self.tells(False, raises, yard, ((0,), (4, 5)), ())
        self.tells(False, raises, yard, ((0,), (4, 5)), (0,))
        self.tells(True, raises, yard, ((0,), (4, 4)), (0,))
        self.tells(((1,), (4, 5)), led, yard, ((0,), (4, 4)), (0,), 0)

    def test_raising_raises_the_lot_of_all(self):
        rng = rng_of(703)
        for yard in SMALL:
            for _ in range(5):
                standing, raised = first_standing(yard), 0
                for request in rows(rng, yard, 40, 4):
                    behind = led(yard, standing, request, None)
                    self.assertFalse([at for at, rank in enumerate(standing[1]) if behind[1][at] < rank])
                    if raises(yard, standing, request):
                        raised += 1
                        self.assertEqual(standing[1][-1] + 1, behind[1][-1])
                    else:
                        self.assertEqual(standing, behind)
                    standing = behind
                self.assertLessEqual(raised, yard[0] * len(yard[1]))

    def test_great_yards_are_led_on(self):
        for yard in GREAT[:-1]:
            n = len(yard[1])
            standing = ((0,) * n, (0,) * (1 << n))
            self.tells(True, raises, yard, standing, (0,))
            self.tells([None, 0], lets, yard, standing, (0,))
            after = tuple(number & 1 for number in range(1 << n))
            self.tells(((1,) + (0,) * (n - 1), after), led, yard, standing, (0,), 0)


class Values(Case):
    def test_all_standings_from_the_highest_ranks_back(self):
        for yard in SMALL:
            found = values_by_ranks(yard)
            some = sorted(found)[::max(1, len(found) // 25)] + [first_standing(yard)]
            for standing in some:
                told = self.value(value, yard, standing)
                self.assertEqual((found[standing].numerator, found[standing].denominator), told)

    def test_by_trying_all_rows(self):
        for yard in TINY:
            wanted = value_by_rows(yard)
            self.tells((wanted.numerator, wanted.denominator), best_share, yard)
            self.tells((wanted.numerator, wanted.denominator), value, yard, first_standing(yard))

    def test_standings_behind_some_requests(self):
        yard = (1, (1, 1))
        self.tells((1, 2), value, yard, ((1, 0), (0, 1, 1, 1)))
        self.tells((0, 1), value, yard, ((0, 0), (0, 1, 1, 1)))
        self.tells((1, 2), value, yard, ((1, 0), (0, 1, 1, 2)))
        self.tells((1, 1), value, yard, ((1, 1), (0, 1, 1, 2)))
        self.tells((1, 1), value, (2, (7,)), ((1,), (0, 1)))
        self.tells((1, 2), value, (2, (7,)), ((1,), (0, 2)))
        self.tells((0, 1), value, (2, (7,)), ((0,), (0, 1)))
        rng = rng_of(704)
        for yard in SMALL[:6]:
            found = values_by_ranks(yard)
            for _, standing in some_standings(rng, yard, 5):
                self.assertEqual(found[standing], Fraction(*self.value(value, yard, standing)))


class BestShares(Case):
    def test_the_examples(self):
        for yard, share in KNOWN:
            self.tells(share, best_share, yard)
        self.tells((9, 13), least_share, (3, (2, 3)), told_table((3, (2, 3))))
        self.tells((3, 5), least_share, (3, (2, 3)), greedy_table((3, (2, 3))))

    def test_one_house(self):
        for c in (1, 2, 7, 26):
            for worth in (1, 9, 10 ** 7):
                self.tells((1, 1), best_share, (c, (worth,)))

    def test_two_houses_of_room_one(self):
        for v, w in itertools.product((1, 2, 3, 4, 6, 10 ** 7), repeat=2):
            both, most = v + w, max(v, w)
            divisor = math.gcd(both, most)
            self.tells((most // divisor, both // divisor), best_share, (1, (v, w)))

    def test_equal_worths_of_room_one(self):
        for yard in ((1, (4, 4, 1)), (1, (1, 5, 1)), (1, (2, 2, 2)), (1, (3, 1, 1, 2))):
            self.assertLessEqual(Fraction(*self.value(best_share, yard)), Fraction(1, 2))

    def test_least_form_and_bounds(self):
        rng = rng_of(705)
        for yard in SMALL:
            share = self.value(best_share, yard)
            self.assertEqual((1, tuple), (math.gcd(*share), type(share)))
            best = Fraction(*share)
            self.assertTrue(Fraction(*by_share(yard[0])) <= best <= 1)
            for table in (told_table(yard), greedy_table(yard), tables(rng, yard, 200)):
                self.assertLessEqual(Fraction(*least_share(yard, table)), best)

    def test_some_of_the_houses_alone(self):
        for c, worths in SMALL:
            best = Fraction(*best_share((c, worths)))
            for many in range(1, len(worths)):
                for some in sorted(set(itertools.combinations(worths, many))):
                    self.assertLessEqual(best, Fraction(*best_share((c, some))))

    def test_other_sequences_and_threefold_worths(self):
        for c, worths in SMALL:
            best = best_share((c, worths))
            self.tells(best, best_share, (c, worths[::-1]))
            self.tells(best, best_share, (c, worths[1:] + worths[:1]))
            self.tells(best, best_share, (c, tuple(3 * worth for worth in worths)))


class Greatness(Case):
    def test_yards_that_are_too_great(self):
        for yard in GREAT:
            self.fails("TooGreat", {}, best_share, yard)
            n = len(yard[1])
            self.fails("TooGreat", {}, value, yard, ((0,) * n, (0,) * (1 << n)))
            self.fails("TooGreat", {}, value, yard, None)
        self.assertEqual("value", outcome(best_share, (1, (1,) * 4))[0])
        self.assertEqual("value", outcome(best_share, (26, (1,)))[0])


if __name__ == "__main__":
    unittest.main()
