"""S7.3 and S7.4: giver papers and player papers, and what is none."""

import unittest
from fractions import Fraction

from helper import Case, ODD, deep, put, rng_of
from shareforsure.gamepapers import giver_paper, judge_giver_paper, judge_player_paper, player_paper
from shareforsure.games import best_share
from shareforsure.sheets import check_row
from shareforsure.standings import first_standing, most_of
from shareforsure.tables import requests_of
from test_games import any_standings, most_by_levels, row_behind
from test_tables import GREAT, SMALL

Z = (1, (1, 1))
FIRST = ((0, 0), (0, 0, 0, 0))
# To the first one, if both are named, and then to whom there is room at.
GIVER = giver_paper(Z, 1, 2)
PLAYER = player_paper(Z, 1, 2)
FULL = (((1, 1), (0, 1, 1, 2)), (None,) * 4)


class Reading:
    """A second reading of S7.3 for papers in form."""

    def __init__(self, yard, p, q):
        self.yard, self.p, self.q = yard, p, q
        self.requests = requests_of(yard)

    def after(self, ranks, request):
        return row_behind(self.yard[0], len(self.yard[1]), ranks, request)

    def raised(self, standing, request):
        return self.after(standing[1], request) != standing[1]

    def let(self, standing, request):
        return [None] + [house for house in request if standing[0][house] < self.yard[0]]

    def led(self, standing, request, gift):
        loads = standing[0] if gift is None else put(standing[0], gift, standing[0][gift] + 1)
        return loads, self.after(standing[1], request)

    def numbers(self, standing):
        given = sum(load * worth for load, worth in zip(standing[0], self.yard[1]))
        return self.q * given, self.p * most_by_levels(self.yard, standing[1])

    def listed(self, paper):
        for k in range(1, len(paper)):
            if paper[k][0] <= paper[k - 1][0]:
                return ("order", k)
        if first_standing(self.yard) not in [standing for standing, _ in paper]:
            return ("first",)
        return None

    def giver_fault(self, paper):
        if self.listed(paper) is not None:
            return self.listed(paper)
        among = dict(paper)
        for k, (standing, gifts) in enumerate(paper):
            for r, request in enumerate(self.requests):
                let = self.let(standing, request) if self.raised(standing, request) else [None]
                if gifts[r] not in let:
                    return ("gift", k, r)
        for k, (standing, _) in enumerate(paper):
            given, wanted = self.numbers(standing)
            if given < wanted:
                return ("share", k)
        for k, (standing, gifts) in enumerate(paper):
            for r, request in enumerate(self.requests):
                if self.raised(standing, request) and self.led(standing, request, gifts[r]) not in among:
                    return ("led", k, r)
        return None

    def player_fault(self, paper):
        if self.listed(paper) is not None:
            return self.listed(paper)
        among = dict(paper)
        for k, (standing, request) in enumerate(paper):
            if request is not None and not self.raised(standing, request):
                return ("request", k)
        for k, (standing, request) in enumerate(paper):
            given, wanted = self.numbers(standing)
            if request is None and (most_by_levels(self.yard, standing[1]) == 0 or given > wanted):
                return ("share", k)
        for k, (standing, request) in enumerate(paper):
            for gift in [] if request is None else self.let(standing, request):
                if self.led(standing, request, gift) not in among:
                    return ("led", k, gift)
        return None


def some_pairs(rng, share):
    """Pairs (p, q) below, at, and above a share, p at most q, in least form or not."""
    p, q = share
    yield share
    yield 3 * p, 3 * q
    yield p * 10 ** 6 - 1, q * 10 ** 6
    if p < q:
        yield p * 10 ** 6 + 1, q * 10 ** 6
    for q in (1, rng.randint(2, 9), 10 ** 12):
        yield 0, q
        yield q, q
    q = rng.randint(1, 10 ** 12)
    yield rng.randint(0, q), q


def changed(rng, yard, paper, told):
    """A paper with something otherwise, still in form; a function draws what stands beside a standing."""
    paper = [list(pair) for pair in paper]
    for pair in paper:
        if rng.random() < 1 / len(paper):
            pair[1] = told(pair[0], pair[1])
    if rng.random() < 0.4:
        del paper[rng.randrange(len(paper))]
    for standing in any_standings(rng, yard, rng.choice([0, 0, 1])):
        paper.append([standing, told(standing, None)])
        paper.sort(key=lambda pair: pair[0])
    if paper and rng.random() < 0.1:
        paper.insert(rng.randint(0, len(paper)), rng.choice(paper))
    if len(paper) > 1 and rng.random() < 0.1:
        at = rng.randrange(len(paper) - 1)
        paper[at], paper[at + 1] = paper[at + 1], paper[at]
    return tuple((standing, beside) for standing, beside in paper)


class Papers(Case):
    def test_giver_papers_up_to_the_best_share_and_player_papers_from_it_on(self):
        rng = rng_of(711)
        for yard in SMALL:
            best = Fraction(*best_share(yard))
            for p, q in some_pairs(rng, best_share(yard)):
                reading = Reading(yard, p, q)
                paper = giver_paper(yard, p, q)
                if Fraction(p, q) <= best:
                    self.assertIs(tuple, type(paper))
                    self.assertIsNone(reading.giver_fault(paper))
                    self.assertIsNone(judge_giver_paper(yard, p, q, paper))
                else:
                    self.assertIsNone(paper)
                paper = player_paper(yard, p, q)
                if Fraction(p, q) >= best:
                    self.assertIs(tuple, type(paper))
                    check_row(yard, tuple(request for _, request in paper if request is not None))
                    self.assertIsNone(reading.player_fault(paper))
                    self.assertIsNone(judge_player_paper(yard, p, q, paper))
                else:
                    self.assertIsNone(paper)

    def test_calls_again(self):
        for yard in SMALL[::3]:
            p, q = best_share(yard)
            self.tells(None, judge_giver_paper, yard, p, q, giver_paper(yard, p, q))
            self.tells(None, judge_player_paper, yard, p, q, player_paper(yard, p, q))

    def test_both_papers_at_the_best_share_alone(self):
        for yard in SMALL:
            p, q = best_share(yard)
            more = (p * 10 ** 5 + 1, q * 10 ** 5) if p < q else (p, q)
            for pair in ((p, q), (2 * p, 2 * q)):
                self.assertIsNotNone(self.value(giver_paper, yard, *pair))
                self.assertIsNotNone(self.value(player_paper, yard, *pair))
            if p < q:
                self.tells(None, giver_paper, yard, *more)
            self.tells(None, player_paper, yard, p * 10 ** 5 - 1, q * 10 ** 5)

    def test_nothing_and_all(self):
        for yard in SMALL:
            self.tells(None, player_paper, yard, 0, 7)
            paper = self.value(giver_paper, yard, 0, 7)
            self.assertIn(first_standing(yard), dict(paper))
            paper = self.value(player_paper, yard, 5, 5)
            # At a most of 0 nothing ends, so something is asked first.
            self.assertNotIn(dict(paper)[first_standing(yard)], (None, ()))
            self.assertEqual(best_share(yard) == (1, 1), self.value(giver_paper, yard, 9, 9) is not None)

    def test_a_house_alone(self):
        yard = (1, (4,))
        first, given, left = ((0,), (0, 0)), ((1,), (0, 1)), ((0,), (0, 1))
        self.tells(((first, (None, 0)), (given, (None, None))), giver_paper, yard, 1, 1)
        self.tells(((first, (0,)), (left, None), (given, None)), player_paper, yard, 1, 1)
        self.tells(None, judge_player_paper, yard, 1, 1, ((first, (0,)), (left, None), (given, None)))
        self.tells(("share", 2), judge_player_paper, yard, 4, 5, ((first, (0,)), (left, None), (given, None)))
        self.tells(None, judge_giver_paper, yard, 0, 1, ((first, (None, None)), (left, (None, None))))
        self.tells(("share", 1), judge_giver_paper, yard, 1, 9, ((first, (None, None)), (left, (None, None))))


class GiverFaults(Case):
    def wrong(self, fault, value, p=1, q=2):
        self.tells(fault, judge_giver_paper, Z, p, q, value)

    def test_form(self):
        self.wrong(None, GIVER)
        right = GIVER[2]
        for odd in ODD + [deep(1), list(GIVER), [FIRST, (None,) * 4]]:
            if odd != ():
                self.wrong(("form",), odd)
            self.wrong(("form",), (odd,) + GIVER)
            self.wrong(("form",), GIVER + (odd,))
            self.wrong(("form",), put(GIVER, 2, (odd, right[1])))
            self.wrong(("form",), put(GIVER, 2, (right[0], odd)))
            if odd != (0, 0):
                self.wrong(("form",), put(GIVER, 2, ((odd, right[0][1]), right[1])))
            self.wrong(("form",), put(GIVER, 2, ((right[0][0], odd), right[1])))
            number = isinstance(odd, int) and not isinstance(odd, bool) and odd >= 0
            if not number:
                self.wrong(("form",), put(GIVER, 2, ((right[0][0], (0, 1, odd, 1)), right[1])))
            if not number or odd > 1:
                self.wrong(("form",), put(GIVER, 2, (((0, odd), right[0][1]), right[1])))
            if odd is not None and not (number and odd < 2):
                self.wrong(("form",), put(GIVER, 2, (right[0], (None, None, odd, None))))
            if odd is not None:
                # () names nobody.
                self.wrong(("form",), put(GIVER, 2, (right[0], (odd, None, None, None))))

    def test_form_of_gifts(self):
        for k, r, gift in ((0, 1, 1), (0, 3, 0), (0, 2, 2), (1, 0, 0), (0, 2, True), (0, 2, False)):
            self.wrong(("form",), put(GIVER, k, (GIVER[k][0], put(GIVER[k][1], r, gift))))
        self.wrong(("form",), put(GIVER, 0, (FIRST, (None, 0, 0))))
        self.wrong(("form",), put(GIVER, 0, (FIRST, (None, 0, 0, 1, None))))
        self.wrong(("form",), put(GIVER, 0, (FIRST, [None, 0, 0, 1])))
        self.wrong(("form",), put(GIVER, 0, FIRST + ((None, 0, 0, 1),)))
        self.wrong(("form",), put(GIVER, 0, [FIRST, (None, 0, 0, 1)]))
        self.wrong(("form",), put(GIVER, 0, (((0, 2), FIRST[1]), (None,) * 4)))
        self.wrong(("form",), GIVER[::-1] + ((FIRST, (None, 1, 0, 1)),))

    def test_order(self):
        self.wrong(("order", 1), (GIVER[0],) + GIVER)
        self.wrong(("order", 3), GIVER[:3] + GIVER[2:])
        self.wrong(("order", 2), GIVER[:1] + (GIVER[2], GIVER[1]) + GIVER[3:])
        self.wrong(("order", 1), GIVER[::-1], 1, 1)
        # The same standing with other gifts, and fault behind fault.
        self.wrong(("order", 1), GIVER[:1] + ((FIRST, (None,) * 4),) + GIVER[1:], 1, 1)

    def test_first(self):
        self.wrong(("first",), ())
        self.wrong(("first",), GIVER[1:])
        self.wrong(("first",), ((((1, 1), (0, 0, 0, 0)), (None, 0, 0, 1)),), 1, 1)

    def test_gift(self):
        self.wrong(None, GIVER + (FULL,))
        for r, gift in ((1, 0), (2, 0), (2, 1), (3, 1)):
            # Both houses are full, and nothing raises the ranks any more.
            paper = GIVER + ((FULL[0], put(FULL[1], r, gift)),)
            self.wrong(("gift", len(GIVER), r), paper)
            self.wrong(("gift", len(GIVER), r), paper, 1, 1)
        # A house with room, but the ranks are not raised.
        stuck = ((0, 0), (0, 1, 0, 1))
        self.wrong(("gift", 1, 1), ((FIRST, (None,) * 4), (stuck, (None, 0, None, None))), 1, 1)
        # A full house, though the request raises the ranks.
        held = ((1, 0), (0, 0, 0, 0))
        self.wrong(("gift", 1, 2), ((FIRST, (None,) * 4), (held, (None, None, 0, None))), 1, 1)

    def test_share(self):
        self.wrong(("share", 1), ((FIRST, (None,) * 4), (((0, 0), (0, 1, 0, 1)), (None,) * 4)), 1, 10 ** 12)
        self.wrong(("led", 0, 2), ((FIRST, (None,) * 4), (((0, 0), (0, 1, 0, 1)), (None,) * 4)), 0, 1)
        for k, (standing, _) in enumerate(GIVER):
            if sum(standing[0]) < most_of(Z, standing):
                self.wrong(("share", k), GIVER, 1, 1)
                self.wrong(("share", k), GIVER, 5 * 10 ** 11 + 1, 10 ** 12)
                break
        else:
            self.fail(GIVER)

    def test_led(self):
        self.wrong(("led", 0, 1), GIVER[:1])
        for k in range(1, len(GIVER)):
            paper = GIVER[:k] + GIVER[k + 1:]
            fault = Reading(Z, 1, 2).giver_fault(paper)
            self.assertEqual("led", fault[0])
            self.wrong(fault, paper)
        # What does not raise the ranks leads nowhere.
        self.wrong(None, GIVER, 0, 3)

    def test_any_papers(self):
        rng = rng_of(712)
        sorts = {}
        for yard in SMALL:
            p, q = best_share(yard)
            for _ in range(8):
                pair = rng.choice([(p, q), (p, q), (0, 1), (10 ** 12 * p // q - 1, 10 ** 12), (q, q)])
                whole = giver_paper(yard, *pair) or giver_paper(yard, p, q)

                def told(standing, gifts):
                    lists = [[None] + list(request) for request in requests_of(yard)]
                    if gifts is None:
                        return tuple(rng.choice([None] + found[:1]) for found in lists)
                    at = rng.randrange(len(gifts))
                    return put(gifts, at, rng.choice(lists[at]))

                paper = changed(rng, yard, whole, told)
                fault = Reading(yard, *pair).giver_fault(paper)
                sorts[fault and fault[0]] = True
                self.assertEqual(fault, judge_giver_paper(yard, *pair, paper))
        self.assertEqual({None, "order", "first", "gift", "share", "led"}, set(sorts))

    def test_standings_that_are_never_come_to(self):
        yard = (1, (3,))
        first, given = ((0,), (0, 0)), ((1,), (0, 1))
        right = ((first, (None, 0)), (given, (None, None)))
        self.tells(None, judge_giver_paper, yard, 1, 1, right)
        # () raises these ranks: they become 1, so even its gift is None that leads somewhere.
        odd = ((0,), (0, 5))
        self.tells(("share", 1), judge_giver_paper, yard, 1, 9, (right[0], (odd, (None, None)), right[1]))
        self.tells(("led", 1, 0), judge_giver_paper, yard, 0, 1, (right[0], (odd, (None, None)), right[1]))
        behind = ((0,), (0, 1))
        paper = (right[0], (behind, (None, None)), (odd, (None, None)), right[1])
        self.tells(None, judge_giver_paper, yard, 0, 1, paper)
        self.tells(("led", 0, 1), judge_giver_paper, yard, 0, 1, paper[:3])
        self.tells(None, judge_giver_paper, yard, 0, 1, put(paper, 2, (odd, (None, 0))))
        # The number of () stays as it is.
        for gift in (None, 0):
            full = (((0,), (7, 8)), (None, gift))
            self.tells(("gift", 2, 1) if gift == 0 else None, judge_giver_paper, yard, 0, 1,
                       (right[0], (behind, (None, None)), full, right[1]))
            high = (((0,), (7, 3)), (None, gift))
            self.tells(("led", 2, 1), judge_giver_paper, yard, 0, 1,
                       (right[0], (behind, (None, None)), high, right[1]))


class PlayerFaults(Case):
    def wrong(self, fault, value, p=1, q=2):
        self.tells(fault, judge_player_paper, Z, p, q, value)

    def test_form(self):
        self.wrong(None, PLAYER)
        right = PLAYER[1]
        for odd in ODD + [deep(1), list(PLAYER), [FIRST, None], (1, 0), (2,), (0, 2), (0, True), (-1, 0), [0, 1]]:
            if odd != ():
                self.wrong(("form",), odd)
            self.wrong(("form",), (odd,) + PLAYER)
            self.wrong(("form",), PLAYER + (odd,))
            self.wrong(("form",), put(PLAYER, 1, (odd, right[1])))
            if odd not in (None, (), (1,)) or repr(odd) == "(True,)":
                self.wrong(("form",), put(PLAYER, 1, (right[0], odd)))
            if odd not in ((0, 0), (1, 0)):
                self.wrong(("form",), put(PLAYER, 1, ((odd, right[0][1]), right[1])))
            self.wrong(("form",), put(PLAYER, 1, ((right[0][0], odd), right[1])))
            number = isinstance(odd, int) and not isinstance(odd, bool) and odd >= 0
            if not number:
                self.wrong(("form",), put(PLAYER, 1, ((right[0][0], (0, 1, odd, 1)), right[1])))
            if not number or odd > 1:
                self.wrong(("form",), put(PLAYER, 1, (((0, odd), right[0][1]), right[1])))
        self.wrong(("form",), put(PLAYER, 1, right + (None,)))
        self.wrong(("form",), PLAYER[::-1] + ((FIRST, (1, 0)),))

    def test_order(self):
        self.wrong(("order", 1), (PLAYER[0],) + PLAYER)
        self.wrong(("order", 2), PLAYER[:2] + PLAYER[1:])
        self.wrong(("order", 1), PLAYER[::-1], 0, 1)
        self.wrong(("order", 1), PLAYER[:1] + ((FIRST, ()),) + PLAYER[1:], 0, 1)

    def test_first(self):
        self.wrong(("first",), ())
        self.wrong(("first",), PLAYER[1:])
        self.wrong(("first",), ((((1, 1), (0, 0, 0, 0)), ()),), 0, 1)

    def test_request(self):
        self.wrong(("request", 0), put(PLAYER, 0, (FIRST, ())))
        self.wrong(("request", 0), put(PLAYER, 0, (FIRST, ())), 0, 1)
        for request in ((), (0,), (1,), (0, 1)):
            paper = PLAYER + ((FULL[0], request),)
            self.wrong(("request", len(PLAYER)), paper)
            self.wrong(("request", len(PLAYER)), paper, 0, 1)

    def test_share(self):
        ends = [k for k, (_, request) in enumerate(PLAYER) if request is None]
        self.wrong(("share", 0), put(PLAYER, 0, (FIRST, None)))
        self.wrong(("share", 0), ((FIRST, None),), 1, 1)
        # At an end half is given, where there was anything to give.
        half = [k for k in ends if sum(PLAYER[k][0][0]) > 0]
        self.wrong(("share", half[0]), PLAYER, 0, 1)
        self.wrong(("share", half[0]), PLAYER, 5 * 10 ** 11 - 1, 10 ** 12)
        self.wrong(None, PLAYER, 1, 1)

    def test_led(self):
        self.wrong(("led", 0, None), ((FIRST, (0, 1)),))
        self.wrong(("led", 0, None), ((FIRST, (0, 1)),), 1, 1)
        refused, zero, one = ((0, 0), (0, 1, 1, 1)), ((1, 0), (0, 1, 1, 1)), ((0, 1), (0, 1, 1, 1))
        self.wrong(("led", 0, 0), ((FIRST, (0, 1)), (refused, None)))
        self.wrong(("led", 0, 0), ((FIRST, (0, 1)), (refused, None), (one, None)), 1, 1)
        self.wrong(("led", 0, 1), ((FIRST, (0, 1)), (refused, None), (zero, None)), 1, 1)
        self.wrong(None, ((FIRST, (0, 1)), (refused, None), (one, None), (zero, None)), 1, 1)
        for k in range(1, len(PLAYER)):
            paper = PLAYER[:k] + PLAYER[k + 1:]
            fault = Reading(Z, 1, 2).player_fault(paper)
            self.assertEqual("led", fault[0])
            self.wrong(fault, paper)

    def test_any_papers(self):
        rng = rng_of(713)
        sorts = {}
        for yard in SMALL:
            p, q = best_share(yard)
            for _ in range(8):
                pair = rng.choice([(p, q), (p, q), (0, 1), (10 ** 12 * p // q + 1, 10 ** 12), (q, q)])
                pair = (min(pair), max(pair))
                whole = player_paper(yard, *pair) or player_paper(yard, p, q)

                def told(standing, request):
                    return rng.choice([None] + requests_of(yard))

                paper = changed(rng, yard, whole, told)
                fault = Reading(yard, *pair).player_fault(paper)
                sorts[fault and fault[0]] = True
                self.assertEqual(fault, judge_player_paper(yard, *pair, paper))
        self.assertEqual({None, "order", "first", "request", "share", "led"}, set(sorts))

    def test_standings_that_are_never_come_to(self):
        yard = (1, (3,))
        first, left, given = ((0,), (0, 0)), ((0,), (0, 1)), ((1,), (0, 1))
        right = ((first, (0,)), (left, None), (given, None))
        self.tells(None, judge_player_paper, yard, 1, 1, right)
        odd = ((0,), (0, 5))
        # () raises these ranks, and leads to those of one request.
        self.tells(None, judge_player_paper, yard, 1, 1, (right[0], right[1], (odd, ()), right[2]))
        self.tells(None, judge_player_paper, yard, 1, 1, (right[0], right[1], (odd, (0,)), right[2]))
        self.tells(None, judge_player_paper, yard, 1, 1, (right[0], right[1], (odd, None), right[2]))
        high = ((0,), (7, 3))
        self.tells(("request", 2), judge_player_paper, yard, 1, 1, right[:2] + ((high, ()),) + right[2:])
        self.tells(("led", 2, None), judge_player_paper, yard, 1, 1, right[:2] + ((high, (0,)),) + right[2:])
        self.tells(None, judge_player_paper, yard, 1, 1,
                   right[:2] + ((high, (0,)), (((0,), (7, 4)), None)) + right[2:] + ((((1,), (7, 4)), None),))
        # A most of 0 ends no play, whatever other ranks are.
        none = ((0,), (9, 0))
        self.tells(("share", 2), judge_player_paper, yard, 1, 1, right[:2] + ((none, None),) + right[2:])


class Greatness(Case):
    def test_yards_that_are_too_great(self):
        for yard in GREAT:
            self.fails("TooGreat", {}, giver_paper, yard, 1, 2)
            self.fails("TooGreat", {}, player_paper, yard, 1, 2)
            for odd in ODD + [GIVER, PLAYER]:
                self.fails("TooGreat", {}, judge_giver_paper, yard, 1, 2, odd)
                self.fails("TooGreat", {}, judge_player_paper, yard, 1, 2, odd)


if __name__ == "__main__":
    unittest.main()
