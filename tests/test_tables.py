"""S6.1 and S6.4: requests and tables of small yards, and what a table giver gives."""

import itertools
import unittest

from helper import Case, outcome, rng_of, rows, tables, told_by_hand, yards
from shareforsure.errors import TooGreat
from shareforsure.gifts import gifts_fault, given_of
from shareforsure.most import most_given
from shareforsure.sheets import check_table
from shareforsure.tables import greedy_table, requests_of, table_gifts, told_table

SMALL = [(1, (1,)), (1, (5, 2)), (2, (1, 1)), (2, (3, 5)), (3, (2, 3)), (4, (1, 1)), (1, (1, 2, 3)), (2, (1, 1, 1)),
         (2, (4, 1, 9)), (1, (1, 1, 1, 1)), (1, (4, 3, 2, 1)), (26, (7,)), (5, (10 ** 7,))]
GREAT = [(27, (1,)), (5, (1, 1)), (3, (1, 1, 1)), (2, (1, 1, 1, 1)), (30, (1, 1, 1, 1)), (1, (1,) * 5)]
Z = (1, (1, 1))
TABLE = ((((0, 0), (0,)), 0), (((0, 0), (0, 1)), 0), (((0, 0), (1,)), 1), (((0, 1), (0,)), 0), (((0, 1), (0, 1)), 0),
         (((1, 0), (0, 1)), 1), (((1, 0), (1,)), 1))


def all_requests(n):
    return sorted(tuple(house for house in range(n) if mask // 2 ** house % 2) for mask in range(2 ** n))


def pairs_of(yard):
    """All pairs of loads and a request, ascending."""
    c, worths = yard
    return sorted(itertools.product(itertools.product(range(c + 1), repeat=len(worths)), all_requests(len(worths))))


class Tables(Case):
    def test_requests(self):
        self.tells([(), (0,)], requests_of, (3, (9,)))
        self.tells([(), (0,), (0, 1), (0, 1, 2), (0, 2), (1,), (1, 2), (2,)], requests_of, (1, (1, 1, 1)))
        for yard in SMALL:
            self.tells(all_requests(len(yard[1])), requests_of, yard)

    def test_the_example(self):
        self.tells(TABLE, told_table, Z)
        self.tells(TABLE, greedy_table, Z)
        self.tells(((((0,), (0,)), 0), (((1,), (0,)), 0)), told_table, (2, (3,)))

    def test_the_told_table_pair_by_pair(self):
        for yard in SMALL:
            c, worths = yard
            wanted = []
            for loads, request in pairs_of(yard):
                # The houses that are worth most ask for their loads first, each alone.
                ahead = tuple((house,) for house, load in enumerate(loads) for _ in range(load))
                gift = told_by_hand(yard, ahead + (request,))[-1]
                if gift is not None:
                    wanted.append(((loads, request), gift))
            self.tells(tuple(wanted), told_table, yard)
            self.assertIsNone(check_table(yard, told_table(yard)))

    def test_the_greedy_table_pair_by_pair(self):
        for yard in SMALL:
            c, worths = yard
            wanted = []
            for loads, request in pairs_of(yard):
                roomy = [house for house in request if loads[house] < c]
                if roomy:
                    best = max(worths[house] for house in roomy)
                    wanted.append(((loads, request), [house for house in roomy if worths[house] == best][0]))
            self.tells(tuple(wanted), greedy_table, yard)
            self.assertIsNone(check_table(yard, greedy_table(yard)))

    def test_the_two_tables_differ(self):
        yard = (2, (5, 4))
        told, greedy = dict(told_table(yard)), dict(greedy_table(yard))
        self.assertEqual((0, 1, 1), (told[(0, 0), (0, 1)], told[(1, 0), (0, 1)], told[(2, 1), (0, 1)]))
        self.assertEqual((0, 0, 1), (greedy[(0, 0), (0, 1)], greedy[(1, 0), (0, 1)], greedy[(2, 1), (0, 1)]))

    def test_yards_that_are_too_great(self):
        for yard in GREAT:
            for call in (requests_of, told_table, greedy_table):
                self.fails("TooGreat", {}, call, yard)


class Gifts(Case):
    def test_the_example(self):
        self.tells((0, None), table_gifts, Z, TABLE, ((0, 1), (0,)))
        self.tells((1, 0, None, None), table_gifts, Z, TABLE, ((1,), (0, 1), (), (0, 1)))
        self.tells((1, 0), table_gifts, Z, TABLE, [(1,), (0, 1)])
        self.tells((), table_gifts, Z, TABLE, ())

    def test_pairs_that_are_not_there(self):
        self.tells((None, None), table_gifts, Z, (), ((0,), (0, 1)))
        table = ((((0, 0), (0,)), 0), (((0, 0), (0, 1)), None), (((1, 0), (0, 1)), 1))
        self.tells((None, 0, None, 1, None), table_gifts, Z, table, ((0, 1), (0,), (1,), (0, 1), (0, 1)))

    def test_tables_that_are_made_up(self):
        rng = rng_of(161)
        for _ in range(200):
            yard = yards(rng, 4, 3, 9)
            table = tables(rng, yard, rng.choice([3, 40, 400]))
            row = rows(rng, yard, rng.randint(0, 12), 4)
            gifts = self.value(table_gifts, yard, table, row)
            told = dict(table)
            for at, (request, gift) in enumerate(zip(row, gifts)):
                loads = tuple(gifts[:at].count(house) for house in range(len(yard[1])))
                self.assertEqual(told.get((loads, request)), gift)
            self.assertIsNone(gifts_fault(yard, row, gifts))

    def test_yards_that_are_too_great_for_the_rest(self):
        for yard in GREAT:
            n = len(yard[1])
            table = ((((0,) * n, (0,)), 0), (((1,) + (0,) * (n - 1), (0,)), 0))
            self.tells((0, 0, None), table_gifts, yard, table, ((0,),) * 3)
            with self.assertRaises(TooGreat):
                requests_of(yard)

    def test_both_tables_give_as_their_givers_do(self):
        rng = rng_of(162)
        for yard in SMALL:
            for _ in range(10):
                row = rows(rng, yard, 15, 4)
                self.assertEqual(told_by_hand(yard, row), table_gifts(yard, told_table(yard), row))
                greedy = table_gifts(yard, greedy_table(yard), row)
                self.assertGreaterEqual(2 * given_of(yard, greedy), most_given(yard, row))

    def test_long_rows(self):
        rng = rng_of(163)
        yard = (2, (4, 1, 9))
        row = rows(rng, yard, 200, 3)
        self.assertEqual(told_by_hand(yard, row), table_gifts(yard, told_table(yard), row))
        self.assertEqual("value", outcome(table_gifts, (30, (1,) * 4), (), row)[0])


if __name__ == "__main__":
    unittest.main()
