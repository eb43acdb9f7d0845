"""S6.2: standings of table givers, and where requests lead them."""

import unittest

from helper import Case, rng_of, rows, tables
from shareforsure.gifts import given_of as given_by
from shareforsure.gifts import loads_of
from shareforsure.most import most_given
from shareforsure.ranks import no_ranks, ranks_of
from shareforsure.standings import first_standing, given_of, most_of, standing_behind, standings
from shareforsure.tables import greedy_table, requests_of, table_gifts, told_table
from test_tables import GREAT, SMALL, TABLE, Z


def standing_of(yard, table, row):
    """The standing to which a row leads, without going through others."""
    return loads_of(yard, table_gifts(yard, table, row)), ranks_of(yard[0], len(yard[1]), row)


def some_tables(rng, yard):
    return [told_table(yard), greedy_table(yard), ()] + [tables(rng, yard, 200) for _ in range(2)]


class Standings(Case):
    def test_the_first_one(self):
        self.tells(((0, 0), (0, 0, 0, 0)), first_standing, Z)
        self.tells(((0,), (0, 0)), first_standing, (26, (9,)))
        for yard in SMALL:
            self.tells(((0,) * len(yard[1]), no_ranks(len(yard[1]))), first_standing, yard)

    def test_the_example(self):
        second = ((1, 0), (0, 1, 1, 1))
        self.tells(second, standing_behind, Z, TABLE, first_standing(Z), (0, 1))
        self.tells(((1, 0), (0, 1, 1, 2)), standing_behind, Z, TABLE, second, (0,))
        self.tells(((1, 1), (0, 1, 1, 2)), standing_behind, Z, TABLE, second, (1,))
        self.tells(second, standing_behind, Z, TABLE, second, ())
        self.tells(1, given_of, Z, second)
        self.tells(1, most_of, Z, second)
        self.tells([((0, 0), (0, 0, 0, 0)), ((0, 1), (0, 0, 1, 1)), ((1, 0), (0, 1, 0, 1)), ((1, 0), (0, 1, 1, 1)),
                    ((1, 0), (0, 1, 1, 2)), ((1, 1), (0, 1, 1, 2))], standings, Z, TABLE)

    def test_rows_lead_to_what_was_given_and_the_most(self):
        rng = rng_of(171)
        for yard in SMALL:
            for table in some_tables(rng, yard):
                for _ in range(4):
                    row = rows(rng, yard, rng.randint(0, 8), 4)
                    standing = first_standing(yard)
                    for request in row:
                        standing = self.value(standing_behind, yard, table, standing, request)
                    self.assertEqual(standing_of(yard, table, row), standing)
                    self.tells(given_by(yard, table_gifts(yard, table, row)), given_of, yard, standing)
                    self.tells(most_given(yard, row), most_of, yard, standing)

    def test_what_is_come_to(self):
        rng = rng_of(172)
        for yard in SMALL:
            for table in some_tables(rng, yard):
                found = self.value(standings, yard, table)
                self.assertEqual(sorted(set(found)), found)
                self.assertIn(first_standing(yard), found)
                # Rows are kept to the standings that they lead to first, until no new ones come.
                known, waiting = {first_standing(yard): ()}, [()]
                for row in waiting:
                    for request in requests_of(yard):
                        longer = row + (request,)
                        standing = standing_of(yard, table, longer)
                        if standing not in known:
                            known[standing] = longer
                            waiting.append(longer)
                self.assertEqual(sorted(known), found)

    def test_how_many_rank_rows_there_are(self):
        for yard, many in (((1, (1,) * 3), 16), ((2, (1,) * 3), 114), ((1, (1, 1)), 5), ((2, (1, 1)), 14),
                           ((3, (1, 1)), 30), ((4, (1, 1)), 55), ((26, (1,)), 27)):
            self.assertEqual(many, len({ranks for _, ranks in standings(yard, told_table(yard))}))
            # Without any gift there is one standing for each rank row.
            self.assertEqual(many, len(standings(yard, ())))

    def test_the_table_of_the_yard_alone_tells_gifts(self):
        self.tells([((0,), (0, 0)), ((0,), (0, 1))], standings, (1, (1,)), ())
        self.tells([((0,), (0, 0)), ((1,), (0, 1))], standings, (1, (1,)), ((((0,), (0,)), 0),))
        self.tells([((0,), (0, 0)), ((0,), (0, 1))], standings, (1, (1,)), ((((0,), (0,)), None),))

    def test_lists_are_new(self):
        standings(Z, TABLE).clear()
        self.assertEqual(6, len(standings(Z, TABLE)))

    def test_yards_that_are_too_great(self):
        for yard in GREAT:
            n = len(yard[1])
            standing = ((0,) * n, (0,) * 2 ** n)
            for call, args in ((first_standing, ()), (standing_behind, ((), standing, ())), (given_of, (standing,)),
                               (most_of, (standing,)), (standings, ((),))):
                self.fails("TooGreat", {}, call, yard, *args)


if __name__ == "__main__":
    unittest.main()
