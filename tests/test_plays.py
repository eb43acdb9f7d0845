"""S5.2 and S5.5: accounts of plays, what is left up to the bound, and what is no play."""

import itertools
import unittest

from helper import Case, ODD, deep, put, rng_of
from shareforsure.givers import RowGiver, ToldGiver
from shareforsure.players import bound_of, levels, play, player_sizes
from shareforsure.plays import judge_play, play_account, play_room
from test_players import givers, row_by_hand, some_sizes

SIZES = (3, 2, 1)
PLAY = (((0, 1, 2), (0, 1, 2), (0, 2), (0, 2), (0,), (0,)), (2, None, 0, None, 0, None))


def fault_by_hand(c, sizes, value):
    """The first fault of a pair of tuples of equally many members."""
    row, gifts = value
    for number, request in enumerate(row):
        made = row_by_hand(c, sizes, gifts[:number])
        if number >= len(made) or repr(made[number]) != repr(request):
            return ("request", number)
        gift = gifts[number]
        if gift is not None:
            if type(gift) is not int or gift not in request or gifts[:number].count(gift) >= c:
                return ("gift", number)
    return ("end",) if len(row) < c * sizes[0] else None


def some_plays(seed, many):
    rng = rng_of(seed)
    for _ in range(many):
        c, sizes = rng.randint(1, 4), some_sizes(rng, 10)
        for giver in givers(rng, c, sizes[0]):
            yield c, sizes, play(c, sizes, giver)


class Accounts(Case):
    def test_the_examples(self):
        told = play(2, (9, 6, 4), ToldGiver((2, (1,) * 9)))
        self.tells(((9, 0, 0), (6, 6, 0), (4, 8, 0)), play_account, 2, (9, 6, 4), told)
        self.tells(0, play_room, 2, (9, 6, 4), told)
        self.tells(((3, 0, 0), (2, 1, 1), (1, 1, 2)), play_account, 2, SIZES, PLAY)
        self.tells(1, play_room, 2, SIZES, PLAY)
        self.tells(None, judge_play, 2, SIZES, PLAY)

    def test_by_hand(self):
        for c, sizes, (row, gifts) in some_plays(151, 60):
            begun, wanted = 0, []
            for size, behind in zip(sizes, sizes[1:] + (0,)):
                houses = set(row[begun])
                self.assertEqual(size, len(houses))
                wanted.append((size, sum(gift in houses for gift in gifts[:begun]), gifts[:begun].count(None)))
                begun += c * (size - behind)
            self.tells(tuple(wanted), play_account, c, sizes, (row, gifts))
            given = len(gifts) - gifts.count(None)
            self.tells(bound_of(c, sizes) - given, play_room, c, sizes, (row, gifts))

    def test_what_holds_at_each_phase(self):
        for c, sizes, told in some_plays(152, 60):
            for (_, loads, left), level in zip(play_account(c, sizes, told), levels(c, sizes)):
                self.assertGreaterEqual(loads + left, level)
            self.assertGreaterEqual(play_room(c, sizes, told), 0)

    def test_the_player_for_a_room_against_the_told_giver(self):
        for c in (1, 2, 3):
            sizes = player_sizes(c)
            told = play(c, sizes, ToldGiver((c, (1,) * sizes[0])))
            wanted = tuple((size, phase * size, 0) for phase, size in enumerate(sizes))
            self.tells(wanted, play_account, c, sizes, told)
            self.tells(0, play_room, c, sizes, told)

    def test_great_plays(self):
        sizes = tuple(range(700, 0, -1))
        told = play(3, sizes, ToldGiver((3, (1,) * 700)))
        self.assertIsNone(judge_play(3, sizes, told))
        account = play_account(3, sizes, told)
        self.assertEqual(sizes, tuple(size for size, _, _ in account))
        self.assertEqual((700, 0, 0), account[0])
        self.assertGreaterEqual(account[-1][1] + account[-1][2], levels(3, sizes)[-1])
        self.assertGreaterEqual(play_room(3, sizes, told), 0)


class Faults(Case):
    def wrong(self, fault, value):
        self.tells(fault, judge_play, 2, SIZES, value)

    def test_right_plays(self):
        for c, sizes, told in some_plays(153, 30):
            self.tells(None, judge_play, c, sizes, told)

    def test_form(self):
        row, gifts = PLAY
        for value in (list(PLAY), (row,), (row, gifts, ()), (list(row), gifts), (row, list(gifts)), (row, gifts[:-1]),
                      (row[:-1], gifts), ((), gifts), (row, ()), (None, None)):
            self.wrong(("form",), value)
        self.wrong(("form",), (((9,),), ()))

    def test_requests(self):
        row, gifts = PLAY
        self.wrong(("request", 0), (((),) + row[1:], gifts))
        self.wrong(("request", 1), (row[1:] + ((),), gifts))
        self.wrong(("request", 0), (((0, 1, 2, 3),) + row[1:], gifts))
        self.wrong(("request", 2), (put(row, 2, (0, 1)), gifts))
        self.wrong(("request", 4), (put(row, 4, (2,)), gifts))
        self.wrong(("request", 5), (put(row, 5, (0, 2)), gifts))
        self.wrong(("request", 6), (row + ((0,),), gifts + (None,)))
        for more in ((), None, row[5:], True):
            self.wrong(("request", 6), (row + (more,), gifts + (None,)))
        # What is made by other gifts: A[1] are 0 and 1 then.
        self.wrong(("request", 2), (row, put(gifts, 0, 1)))
        for odd in ([0, 1, 2], (0, True, 2), (False, 1, 2), (0, 1, "2"), (0, 1), {}, None, True, "012", ((0,), 1, 2)):
            self.wrong(("request", 1), (put(row, 1, odd), gifts))
        self.tells(("request", 0), judge_play, 1, (1,), (((False,),), (None,)))
        self.tells(("request", 0), judge_play, 1, (2,), (((0, True),) * 2, (None,) * 2))

    def test_gifts(self):
        row, gifts = PLAY
        for odd in ODD + [[2], -1, 3, (2,)]:
            if odd is not None and (isinstance(odd, bool) or odd not in (0, 1, 2)):
                self.wrong(("gift", 1), (row, put(gifts, 1, odd)))
        self.wrong(("gift", 2), (row, put(gifts, 2, 1)))
        self.wrong(("gift", 5), (row, put(gifts, 5, 0)))
        self.wrong(("gift", 3), (put(row, 4, (2,)), (2, 2, 0, 2, None, None)))
        self.tells(("gift", 1), judge_play, 1, (2, 1), (((0, 1), (0,)), (0, 0)))

    def test_request_by_request(self):
        row, gifts = PLAY
        self.wrong(("gift", 0), (put(row, 1, ()), put(gifts, 0, True)))
        self.wrong(("request", 1), (put(row, 1, ()), put(gifts, 1, True)))
        self.wrong(("gift", 1), (put(row, 2, ()), put(gifts, 1, 9)))

    def test_the_end(self):
        row, gifts = PLAY
        for end in range(6):
            self.wrong(("end",), (row[:end], gifts[:end]))
        self.wrong(("gift", 1), (row[:2], (0, True)))
        self.wrong(("end",), ((), ()))

    def test_plays_of_other_sizes(self):
        told = play(2, SIZES, RowGiver((2, None, 0, None, 0, None)))
        self.tells(("request", 2), judge_play, 2, (3, 1), told)
        self.tells(("request", 0), judge_play, 2, (4, 2, 1), told)
        self.tells(("request", 4), judge_play, 2, (3, 2), told)
        self.tells(("request", 1), judge_play, 1, SIZES, told)
        self.tells(("request", 2), judge_play, 3, SIZES, told)
        for (c, sizes), (other, others) in itertools.product([(1, (4, 2)), (2, (4, 3)), (2, (4,)), (2, (4, 3, 1))],
                                                             repeat=2):
            value = play(c, sizes, ToldGiver((c, (1,) * 4)))
            self.tells(fault_by_hand(other, others, value), judge_play, other, others, value)

    def test_plays_that_are_changed(self):
        rng = rng_of(154)
        wrong = {}
        for c, sizes, (row, gifts) in some_plays(155, 60):
            at = rng.randrange(len(row))
            way = rng.randrange(5)
            if way == 0:
                gifts = put(gifts, at, rng.choice([None, *range(sizes[0] + 1), True, False]))
            elif way == 1:
                row = put(row, at, row[rng.randrange(len(row))])
            elif way == 2:
                row = put(row, at, tuple(sorted(rng.sample(range(sizes[0]), rng.randint(0, sizes[0])))))
            elif way == 3:
                row, gifts = row[:at], gifts[:at]
            else:
                row, gifts = row + (row[at],), gifts + (None,)
            fault = fault_by_hand(c, sizes, (row, gifts))
            wrong[fault and fault[0]] = True
            self.tells(fault, judge_play, c, sizes, (row, gifts))
        self.assertEqual({None, "request", "gift", "end"}, set(wrong))

    def test_odd_values(self):
        for odd in ODD + [deep(1), deep(())]:
            if odd != ((0,), (0,)):
                wanted = ("end",) if odd == ((), ()) else ("form",)
                self.wrong(("request", 0) if odd in (((0, 0), (0, 0)),) else wanted, odd)
            self.wrong(("form",), (odd, odd) if not isinstance(odd, tuple) else (odd, [odd]))
        self.wrong(("request", 0), ((0,), (0,)))
        self.wrong(("request", 0), ((deep(1),), (None,)))
        self.wrong(("form",), ((None,) * 2600, (None,) * 2599))
        self.wrong(("request", 0), ((None,) * 2600, (None,) * 2600))


if __name__ == "__main__":
    unittest.main()
