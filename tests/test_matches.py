"""S7.3 and S7.6: givers and players that go by papers, and what comes of them."""

import unittest
from fractions import Fraction

from helper import Case, ODD, rng_of, rows
from shareforsure.eager import FirstGiver
from shareforsure.gamepapers import giver_paper, player_paper
from shareforsure.games import best_share, led, lets, raises
from shareforsure.gifts import gifts_fault, given_of, loads_of
from shareforsure.givers import CallGiver, RowGiver, ToldGiver, run
from shareforsure.matches import PaperGiver, PaperPlayer, played
from shareforsure.most import most_given
from shareforsure.ranks import ranks_of
from shareforsure.standings import first_standing
from shareforsure.tables import requests_of
from test_tables import GREAT, SMALL

Z = (1, (1, 1))
FIRST = ((0, 0), (0, 0, 0, 0))


def standing_of(yard, row, gifts):
    return loads_of(yard, gifts), ranks_of(yard[0], len(yard[1]), row)


def kept(yard, row, gifts, p, q):
    """Whether q times the given is at least p times the most behind each request."""
    return all(q * given_of(yard, gifts[:end]) >= p * most_given(yard, row[:end]) for end in range(len(row) + 1))


def paper_run(yard, paper, row):
    giver = PaperGiver(yard, paper)
    return run(giver, row), giver.standing()


class Refusing:
    """A giver that gives nothing, and keeps what it was asked."""

    def __init__(self):
        self.asked = []

    def give(self, request):
        self.asked.append(request)


class Choosing:
    """A giver that gives to any of the houses with room, or to none."""

    def __init__(self, rng, yard):
        self.rng, self.c, self.loads = rng, yard[0], [0] * len(yard[1])

    def give(self, request):
        gift = self.rng.choice([None] + [house for house in request if self.loads[house] < self.c])
        if gift is not None:
            self.loads[gift] += 1
        return gift


class Givers(Case):
    def test_a_house_alone(self):
        yard = (2, (4,))
        giver = PaperGiver(yard, giver_paper(yard, 1, 1))
        self.assertEqual(((0,), (0, 0)), giver.standing())
        for request, gift, standing in (((), None, ((0,), (0, 0))), ((0,), 0, ((1,), (0, 1))),
                                        ((), None, ((1,), (0, 1))), ((0,), 0, ((2,), (0, 2))),
                                        ((0,), None, ((2,), (0, 2)))):
            self.assertEqual(repr(gift), repr(giver.give(request)))
            self.assertEqual(standing, giver.standing())
            self.assertIs(tuple, type(giver.standing()))

    def test_it_gives_as_the_paper_tells(self):
        refused, given = ((0, 0), (0, 1, 1, 1)), ((1, 0), (0, 1, 1, 1))
        none = (None,) * 4
        gifts = (None, None, 1, None)
        paper = ((FIRST, gifts), (refused, none), (given, none))
        self.tells(((1,), ((0, 1), (0, 1, 1, 1))), paper_run, Z, paper, ((0, 1),))
        self.tells(((), FIRST), paper_run, Z, paper, ())
        self.tells(((None, None), FIRST), paper_run, Z, paper, ((), ()))
        self.tells(((None,), ((0, 0), (0, 1, 0, 1))), paper_run, Z, paper, ((0,),))

    def test_rows_of_all_sorts(self):
        rng = rng_of(721)
        for yard in SMALL:
            best = best_share(yard)
            for p, q in (best, (1, 2), (0, 1)):
                paper = giver_paper(yard, p, q)
                for _ in range(4):
                    row = rows(rng, yard, rng.randint(0, 12), 4)
                    gifts, standing = self.value(paper_run, yard, paper, row)
                    self.assertIsNone(gifts_fault(yard, row, gifts))
                    self.assertEqual(standing_of(yard, row, gifts), standing)
                    self.assertTrue(kept(yard, row, gifts, p, q))

    def test_step_by_step(self):
        rng = rng_of(722)
        for yard in SMALL:
            paper = giver_paper(yard, *best_share(yard))
            told = dict(paper)
            giver = PaperGiver(yard, paper)
            row, gifts = (), ()
            for request in rows(rng, yard, 15, 4):
                ahead = giver.standing()
                self.assertEqual(standing_of(yard, row, gifts), ahead)
                wanted = told[ahead][requests_of(yard).index(request)] if raises(yard, ahead, request) else None
                self.assertEqual(repr(wanted), repr(giver.give(request)))
                self.assertEqual(led(yard, ahead, request, wanted), giver.standing())
                row, gifts = row + (request,), gifts + (wanted,)

    def test_two_givers_by_one_paper(self):
        yard = (2, (1, 1))
        paper = giver_paper(yard, 2, 3)
        one, other = PaperGiver(yard, paper), PaperGiver(yard, paper)
        first = one.give((0, 1))
        self.assertEqual(((0, 0), (0, 0, 0, 0)), other.standing())
        self.assertEqual(first, other.give((0, 1)))
        self.assertEqual(one.standing(), other.standing())


class Players(Case):
    def test_asking_changes_nothing(self):
        for yard in SMALL:
            paper = player_paper(yard, *best_share(yard))
            player = PaperPlayer(yard, paper)
            self.assertEqual(first_standing(yard), player.standing())
            for _ in range(3):
                self.assertEqual(dict(paper)[first_standing(yard)], player.asks())
            self.assertEqual(first_standing(yard), player.standing())

    def test_it_is_told_gifts_until_the_play_is_over(self):
        rng = rng_of(723)
        for yard in SMALL:
            paper = player_paper(yard, *best_share(yard))
            for _ in range(5):
                player = PaperPlayer(yard, paper)
                row, gifts = (), ()
                while player.asks() is not None:
                    request, ahead = player.asks(), player.standing()
                    self.assertEqual(dict(paper)[ahead], request)
                    gift = rng.choice(lets(yard, ahead, request))
                    self.assertIsNone(player.told(gift))
                    self.assertEqual(led(yard, ahead, request, gift), player.standing())
                    row, gifts = row + (request,), gifts + (gift,)
                self.assertEqual(standing_of(yard, row, gifts), player.standing())
                for _ in range(2):
                    self.assertIsNone(player.asks())
                self.assertEqual(standing_of(yard, row, gifts), player.standing())

    def test_an_end_at_once(self):
        # Not a right paper, but it tells what is asked at the first standing.
        player = PaperPlayer(Z, ((FIRST, None),))
        self.assertIsNone(player.asks())
        self.assertEqual(FIRST, player.standing())


class Played(Case):
    def ends_well(self, yard, p, q, play):
        row, gifts = play
        self.assertEqual((tuple, tuple, tuple), (type(play), type(row), type(gifts)))
        self.assertEqual(len(row), len(gifts))
        self.assertLessEqual(len(row), yard[0] * len(yard[1]))
        self.assertIsNone(gifts_fault(yard, row, gifts))
        most = most_given(yard, row)
        self.assertGreater(most, 0)
        self.assertLessEqual(q * given_of(yard, gifts), p * most)

    def test_all_sorts_of_givers(self):
        rng = rng_of(724)
        for yard in SMALL:
            best = best_share(yard)
            p, q = best
            for pair in (best, (4 * p, 4 * q), (10 ** 12, 10 ** 12)):
                paper = player_paper(yard, *pair)
                for made in (lambda: ToldGiver(yard), lambda: PaperGiver(yard, giver_paper(yard, p, q)),
                             lambda: Choosing(rng_of(7), yard), lambda: Refusing(), lambda: FirstGiver(yard, 1),
                             lambda: CallGiver(lambda request: None), lambda: RowGiver([None] * 30)):
                    self.ends_well(yard, *pair, self.value(lambda: played(yard, paper, made())))
                for _ in range(3):
                    self.ends_well(yard, *pair, played(yard, paper, Choosing(rng, yard)))

    def test_row_givers_with_each_choice(self):
        for yard in [yard for yard in SMALL if yard[0] * len(yard[1]) <= 4]:
            p, q = best_share(yard)
            paper = player_paper(yard, p, q)
            told = dict(paper)

            def go(standing, gifts):
                if told[standing] is None:
                    row, given = played(yard, paper, RowGiver(list(gifts)))
                    self.assertEqual(gifts, given)
                    self.ends_well(yard, p, q, (row, given))
                    return
                for gift in lets(yard, standing, told[standing]):
                    go(led(yard, standing, told[standing], gift), gifts + (gift,))

            go(first_standing(yard), ())

    def test_the_paper_giver_against_the_paper_player_has_just_the_best_share(self):
        for yard in SMALL:
            p, q = best_share(yard)
            giver = PaperGiver(yard, giver_paper(yard, p, q))
            row, gifts = played(yard, player_paper(yard, p, q), giver)
            self.assertEqual(Fraction(p, q), Fraction(given_of(yard, gifts), most_given(yard, row)))
            self.assertEqual(standing_of(yard, row, gifts), giver.standing())

    def test_each_request_is_asked_once(self):
        giver = Refusing()
        row, gifts = played(Z, player_paper(Z, 1, 2), giver)
        self.assertEqual(list(row), giver.asked)
        self.assertEqual((((0, 1),), (None,)), (row, gifts))
        self.tells((((0, 1), (0,)), (0, None)),
                   lambda: played(Z, player_paper(Z, 1, 2), ToldGiver(Z)))


class Greatness(Case):
    def test_yards_that_are_too_great(self):
        for yard in GREAT:
            for odd in ODD:
                self.fails("TooGreat", {}, PaperGiver, yard, odd)
                self.fails("TooGreat", {}, PaperPlayer, yard, odd)
                giver = Refusing()
                self.fails("TooGreat", {}, lambda: played(yard, odd, giver))
                self.assertEqual([], giver.asked)


if __name__ == "__main__":
    unittest.main()
