"""S4.4 to S4.7: pull papers, accounts, and what is sure behind every request."""

import unittest

from helper import Case, by_share, most_by_places, requests, rng_of, rows, told_by_hand, yards
from shareforsure.covers import cover_price, judge_cover
from shareforsure.gifts import given_of
from shareforsure.most import most_so_far
from shareforsure.shares import pull_paper, share_room, told_account, told_gifts

P = ((0, 1), (0, 1), (0,), (0,))
YARD = (2, (1, 1))


def made_up(seed, many):
    rng = rng_of(seed)
    for _ in range(many):
        yard = yards(rng, 6, rng.choice([1, 2, 3, 30]), rng.choice([1, 3, 10 ** 7]))
        yield yard, rows(rng, yard, rng.randint(0, 14), rng.choice([1, 3, 6]))


class Papers(Case):
    def test_the_example(self):
        self.tells((0, 1, 0, None), told_gifts, YARD, P)
        self.tells(((5, 2), (5, 5, 3, 0)), pull_paper, YARD, P)
        self.tells(((0, 1, 9), (1, 2, 18), (0, 3, 27), (None, 3, 27)), told_account, YARD, P)
        self.tells(7, share_room, YARD, P)
        self.tells(27, cover_price, YARD, pull_paper(YARD, P))

    def test_nothing(self):
        self.tells((), told_gifts, YARD, ())
        self.tells(((0, 0), ()), pull_paper, YARD, ())
        self.tells((), told_account, YARD, ())
        self.tells(0, share_room, YARD, ())
        self.tells((None,), told_gifts, YARD, ((),))
        self.tells(((0, 0), (0,)), pull_paper, YARD, ((),))
        self.tells(((None, 0, 0),), told_account, YARD, ((),))
        self.tells(0, share_room, YARD, ((),))

    def test_pull_papers_by_hand(self):
        for yard, row in made_up(131, 150):
            c, worths = yard
            sure, _ = by_share(c)
            gifts = told_by_hand(yard, row)
            self.tells(gifts, told_gifts, yard, row)
            rises = [(c + 1) ** load * c ** (c - load) - c ** c for load in range(c + 1)]
            houses = tuple(worth * rises[gifts.count(house)] for house, worth in enumerate(worths))
            pulls = tuple(0 if gift is None else worths[gift] * (sure - rises[gifts[:at].count(gift)])
                          for at, gift in enumerate(gifts))
            self.tells((houses, pulls), pull_paper, yard, row)

    def test_pull_papers_are_covers_of_a_price(self):
        for yard, row in made_up(132, 150):
            sure, whole = by_share(yard[0])
            paper = pull_paper(yard, row)
            given = given_of(yard, told_by_hand(yard, row))
            for named, pulled in zip(row, paper[1]):
                for house in named:
                    self.assertGreaterEqual(pulled + paper[0][house], sure * yard[1][house])
            times = (yard[0], tuple(sure * worth for worth in yard[1]))
            self.assertIsNone(judge_cover(times, row, paper))
            self.assertEqual(whole * given, cover_price(times, paper))

    def test_accounts_by_hand(self):
        for yard, row in made_up(133, 100):
            gifts = told_by_hand(yard, row)
            wanted = tuple((gift, given_of(yard, gifts[:end + 1]), cover_price(yard, pull_paper(yard, row[:end + 1])))
                           for end, gift in enumerate(gifts))
            self.tells(wanted, told_account, yard, row)

    def test_great_rows(self):
        rng = rng_of(134)
        yard = (30, tuple(rng.randint(1, 10 ** 7) for _ in range(700)))
        row = tuple(requests(rng, yard, 20) for _ in range(3000))
        gifts = told_gifts(yard, row)
        self.assertEqual(told_by_hand(yard, row), gifts)
        paper = pull_paper(yard, row)
        _, whole = by_share(30)
        self.assertEqual(whole * given_of(yard, gifts), cover_price(yard, paper))
        account = told_account(yard, row)
        self.assertEqual(gifts, tuple(gift for gift, _, _ in account))
        self.assertEqual((given_of(yard, gifts), cover_price(yard, paper)), account[-1][1:])


class Sure(Case):
    def test_behind_every_request(self):
        for yard, row in made_up(135, 200):
            sure, whole = by_share(yard[0])
            mosts = most_so_far(yard, row)
            for (_, given, _), most in zip(told_account(yard, row), mosts):
                self.assertGreaterEqual(whole * given, sure * most)

    def test_share_room(self):
        for yard, row in made_up(136, 200):
            sure, whole = by_share(yard[0])
            given = given_of(yard, told_by_hand(yard, row))
            room = whole * given - sure * most_by_places(yard, row)
            self.assertGreaterEqual(room, 0)
            self.tells(room, share_room, yard, row)

    def test_rows_on_which_it_gives_least(self):
        self.tells(0, share_room, (1, (1, 1)), ((0, 1), (0,)))
        # The player's row for 2: nine houses, then those six and four of them that have most.
        row = (tuple(range(9)),) * 6 + (tuple(range(6)),) * 4 + (tuple(range(4)),) * 8
        self.tells(0, share_room, (2, (1,) * 9), row)
        self.tells(0, share_room, (2, (7,) * 9), row)
        self.tells(9, share_room, (2, (1,) * 9), row[:-1] + ((8,),))

    def test_up_to_the_limits(self):
        rng = rng_of(137)
        for c, many, most in ((1, 100, 4), (30, 300, 80), (3, 300, 3)):
            yard = (c, tuple(rng.randint(1, 10 ** 7) for _ in range(80)))
            row = rows(rng, yard, many, most)
            sure, whole = by_share(c)
            given = given_of(yard, told_by_hand(yard, row))
            self.assertEqual(whole * given - sure * most_by_places(yard, row), share_room(yard, row))


if __name__ == "__main__":
    unittest.main()
