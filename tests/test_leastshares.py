"""S6.3 and S6.4: least shares of table givers, and the papers that show them."""

import itertools
import math
import unittest
from fractions import Fraction

from helper import Case, ODD, by_share, deep, put, rng_of, rows, tables
from shareforsure.gifts import given_of as given_by
from shareforsure.leastshares import judge_kept, judge_late, kept_paper, late_paper, least_share, met_row
from shareforsure.most import most_given
from shareforsure.standings import first_standing, given_of, most_of, standing_behind, standings
from shareforsure.tables import greedy_table, requests_of, table_gifts, told_table
from test_tables import GREAT, SMALL, TABLE, Z

FIRST = ((0, 0), (0, 0, 0, 0))
LATE = ((FIRST, 0), (((0, 1), (0, 0, 1, 1)), 1), (((1, 0), (0, 1, 0, 1)), 1), (((1, 0), (0, 1, 1, 1)), 1))


def share_on(yard, table, row):
    most = most_given(yard, row)
    return Fraction(given_by(yard, table_gifts(yard, table, row)), most) if most else Fraction(1)


def is_met(yard, p, q, standing):
    return most_of(yard, standing) > 0 and q * given_of(yard, standing) <= p * most_of(yard, standing)


def some_givers(seed):
    """Small yards with tables, right ones and bad ones."""
    rng = rng_of(seed)
    for yard in SMALL:
        yield yard, told_table(yard)
        yield yard, greedy_table(yard)
        yield yard, ()
        yield yard, tables(rng, yard, rng.choice([5, 30, 400]))


def some_pairs(rng, share):
    """Pairs (p, q) below, at, and above a share, in least form or not."""
    p, q = share
    yield (3 * p, 3 * q)
    yield (p * 10 ** 6 + 1, q * 10 ** 6)
    yield (max(0, p * 10 ** 6 - 1), q * 10 ** 6)
    yield rng.choice([(0, 1), (1, 1), (2, 2), (3, 2), (10 ** 12, 1), (0, 10 ** 12)])
    yield (rng.randint(0, 9), rng.randint(1, 9))


def kept_by_hand(yard, table, p, q, paper):
    """The first fault of a tuple of standings in form."""
    for k in range(1, len(paper)):
        if paper[k] <= paper[k - 1]:
            return ("order", k)
    if first_standing(yard) not in paper:
        return ("first",)
    for k, standing in enumerate(paper):
        for r, request in enumerate(requests_of(yard)):
            if standing_behind(yard, table, standing, request) not in paper:
                return ("led", k, r)
    for k, standing in enumerate(paper):
        if q * given_of(yard, standing) < p * most_of(yard, standing):
            return ("share", k)
    return None


def late_by_hand(yard, table, p, q, m, paper):
    """The first fault of a tuple of pairs in form."""
    for k in range(1, len(paper)):
        if paper[k][0] <= paper[k - 1][0]:
            return ("order", k)
    if (first_standing(yard), 0) not in paper:
        return ("first",)
    numbers = dict(paper)
    for k, (standing, number) in enumerate(paper):
        for r, request in enumerate(requests_of(yard)):
            behind = standing_behind(yard, table, standing, request)
            if number < m - 1 and numbers.get(behind, m) > number + 1:
                return ("led", k, r)
    for k, (standing, _) in enumerate(paper):
        if is_met(yard, p, q, standing):
            return ("share", k)
    return None


class LeastShares(Case):
    def test_the_example(self):
        self.tells((1, 2), least_share, Z, TABLE)
        row = self.value(met_row, Z, TABLE, 1, 2)
        self.assertEqual((2, Fraction(1, 2)), (len(row), share_on(Z, TABLE, row)))
        self.tells(LATE, late_paper, Z, TABLE, 1, 2, 2)
        self.tells(None, judge_late, Z, TABLE, 1, 2, 2, LATE)

    def test_one_house(self):
        for yard in ((1, (1,)), (26, (7,)), (3, (10 ** 7,))):
            self.tells((1, 1), least_share, yard, told_table(yard))
            self.tells((1, 1), least_share, yard, greedy_table(yard))
            self.tells((0, 1), least_share, yard, ())

    def test_shares_that_are_known(self):
        self.tells((9, 13), least_share, (3, (2, 3)), told_table((3, (2, 3))))
        self.tells((3, 5), least_share, (3, (2, 3)), greedy_table((3, (2, 3))))
        # A giver that leaves the only house now and then.
        self.tells((1, 2), least_share, (2, (5,)), ((((0,), (0,)), 0),))

    def test_it_is_the_least_on_short_and_on_long_rows(self):
        rng = rng_of(181)
        for yard, table in some_givers(182):
            p, q = self.value(least_share, yard, table)
            self.assertEqual((1, tuple), (math.gcd(p, q), type(least_share(yard, table))))
            least = Fraction(p, q)
            found = [Fraction(1)]
            for many in range(4 if len(yard[1]) < 3 else 3):
                for row in itertools.product(requests_of(yard), repeat=many):
                    found.append(share_on(yard, table, row))
            for _ in range(20):
                row = rows(rng, yard, rng.randint(5, 60), 4)
                found.append(share_on(yard, table, row))
            self.assertGreaterEqual(min(found), least)
            # Some row has it: one that is met by this very share.
            row = met_row(yard, table, p, q)
            self.assertEqual(least, share_on(yard, table, row))

    def test_told_and_greedy_tables(self):
        for yard in SMALL:
            sure, whole = by_share(yard[0])
            self.assertGreaterEqual(Fraction(*least_share(yard, told_table(yard))), Fraction(sure, whole))
            self.assertGreaterEqual(Fraction(*least_share(yard, greedy_table(yard))), Fraction(1, 2))


class Papers(Case):
    def test_kept_papers_up_to_the_least_share(self):
        rng = rng_of(183)
        for yard, table in some_givers(184):
            share = least_share(yard, table)
            for p, q in some_pairs(rng, share):
                paper = self.value(kept_paper, yard, table, p, q)
                if p * share[1] <= share[0] * q:
                    self.assertIs(tuple, type(paper))
                    self.assertEqual(standings(yard, table), list(paper))
                    self.tells(None, judge_kept, yard, table, p, q, paper)
                else:
                    self.assertIsNone(paper)

    def test_met_rows_are_as_short_as_can_be(self):
        rng = rng_of(185)
        none = 0
        for yard, table in some_givers(186):
            for p, q in some_pairs(rng, least_share(yard, table)):
                row = self.value(met_row, yard, table, p, q)
                if row is None:
                    none += 1
                    self.assertFalse([standing for standing in standings(yard, table) if is_met(yard, p, q, standing)])
                    self.assertIsNotNone(late_paper(yard, table, p, q, 200))
                    continue
                self.assertIs(tuple, type(row))
                standing = first_standing(yard)
                for request in row:
                    self.assertFalse(is_met(yard, p, q, standing))
                    standing = standing_behind(yard, table, standing, request)
                self.assertTrue(is_met(yard, p, q, standing))
                if len(row) < 4:
                    for shorter in itertools.product(requests_of(yard), repeat=len(row) - 1):
                        self.assertGreater(share_on(yard, table, shorter) * q, p if most_given(yard, shorter) else -1)
        self.assertGreater(none, 10)

    def test_late_papers_exactly_ahead_of_met_rows(self):
        rng = rng_of(187)
        for yard, table in some_givers(188):
            for p, q in some_pairs(rng, least_share(yard, table)):
                row = met_row(yard, table, p, q)
                for m in {1, rng.choice([2, 3, 5, 8, 200]), *(() if row is None else (len(row), len(row) + 1))}:
                    paper = late_paper(yard, table, p, q, m)
                    if row is not None and len(row) < m:
                        self.assertIsNone(paper)
                        continue
                    self.assertIs(tuple, type(paper))
                    self.assertIsNone(judge_late(yard, table, p, q, m, paper))

    def test_late_papers_again(self):
        for yard, table in some_givers(189):
            p, q = least_share(yard, table)
            self.same(late_paper, yard, table, p, q, len(met_row(yard, table, p, q)))
        # Ahead of all requests nothing is met.
        self.tells(((FIRST, 0),), late_paper, Z, TABLE, 10 ** 12, 1, 1)
        self.tells(None, late_paper, Z, TABLE, 10 ** 12, 1, 2)

    def test_shares_above_one(self):
        for yard in SMALL:
            table = told_table(yard)
            self.tells(None, kept_paper, yard, table, 3, 2)
            self.assertEqual(1, len(self.value(met_row, yard, table, 3, 2)))
            self.assertEqual(1, len(self.value(met_row, yard, table, 1, 1)))


class KeptFaults(Case):
    def setUp(self):
        self.paper = kept_paper(Z, TABLE, 1, 2)

    def wrong(self, fault, value, p=1, q=2):
        self.tells(fault, judge_kept, Z, TABLE, p, q, value)

    def test_form(self):
        paper = self.paper
        self.wrong(None, paper)
        for odd in ODD + [deep(1), list(paper), [0, 0]]:
            if odd != ():
                self.wrong(("form",), odd)
            self.wrong(("form",), (odd,) + paper)
            self.wrong(("form",), paper + (odd,))
            if odd != (0, 0):
                self.wrong(("form",), put(paper, 2, (odd, paper[2][1])))
            self.wrong(("form",), put(paper, 2, (paper[2][0], odd)))
            right = isinstance(odd, int) and not isinstance(odd, bool) and odd >= 0
            if not right or odd > 1:
                self.wrong(("form",), put(paper, 2, ((1, odd), paper[2][1])))
            if not right:
                self.wrong(("form",), put(paper, 2, (paper[2][0], (0, 1, odd, 1))))
        for loads, ranks in (((0,), FIRST[1]), ((0, 0, 0), FIRST[1]), ((0, 2), FIRST[1]), (FIRST[0], (0,) * 3),
                             (FIRST[0], (0,) * 5), ((), ()), (FIRST[0], [0] * 4), ([0, 0], FIRST[1])):
            self.wrong(("form",), ((loads, ranks),) + paper)
        self.wrong(("form",), paper[:2] + paper[:2] + (FIRST + (0,),))

    def test_order(self):
        paper = self.paper
        self.wrong(("order", 1), (FIRST,) + paper)
        self.wrong(("order", 3), paper[:3] + paper[2:])
        self.wrong(("order", 1), (paper[1], paper[0]) + paper[2:])
        self.wrong(("order", 5), paper[:4] + paper[5:] + paper[4:5])
        self.wrong(("order", 1), paper[::-1], 9, 1)

    def test_first(self):
        self.wrong(("first",), ())
        self.wrong(("first",), self.paper[1:])
        self.wrong(("first",), (((0, 0), (0, 0, 0, 1)),))
        self.wrong(("first",), (((0, 0), (0, 0, 0, 1)),), 9, 1)

    def test_led(self):
        paper = self.paper
        self.wrong(("led", 0, 1), (FIRST,))
        self.wrong(("led", 0, 1), (FIRST,), 9, 1)
        for k in range(1, len(paper)):
            shorter = paper[:k] + paper[k + 1:]
            self.tells(kept_by_hand(Z, TABLE, 1, 2, shorter), judge_kept, Z, TABLE, 1, 2, shorter)
        self.wrong(("led", 3, 1), paper[:4] + paper[5:])

    def test_share(self):
        # Behind (0, 1) and (0,) 1 is given, and 2 could be.
        self.wrong(("share", 4), self.paper, 10 ** 12, 2 * 10 ** 12 - 1)
        self.wrong(("share", 4), self.paper, 1, 1)
        self.wrong(("share", 1), self.paper, 2, 1)
        self.wrong(None, self.paper, 0, 1)

    def test_any_papers(self):
        rng = rng_of(191)
        sorts = {}
        for yard, table in some_givers(192):
            whole = standings(yard, table)
            for _ in range(6):
                paper = [standing for standing in whole if rng.random() < 0.97]
                if rng.random() < 0.3:
                    paper.append((tuple(rng.randint(0, yard[0]) for _ in yard[1]),
                                  tuple(rng.choice([0, 1, 2, 10 ** 29]) for _ in range(2 ** len(yard[1])))))
                    paper.sort()
                if paper and rng.random() < 0.2:
                    paper.insert(rng.randint(0, len(paper)), rng.choice(paper))
                p, q = rng.choice(list(some_pairs(rng, least_share(yard, table))))
                fault = kept_by_hand(yard, table, p, q, tuple(paper))
                sorts[fault and fault[0]] = True
                self.assertEqual(fault, judge_kept(yard, table, p, q, tuple(paper)))
        self.assertEqual({None, "order", "first", "led", "share"}, set(sorts))

    def test_standings_that_are_never_come_to(self):
        # Numbers that are no ranks go by the formulas, the number of () staying as it is.
        yard, table = (1, (3,)), told_table((1, (3,)))
        whole = (((0,), (0, 0)), ((0,), (5, 0)), ((1,), (0, 1))) + tuple(((1,), (5, rank)) for rank in range(1, 7))
        self.tells(None, judge_kept, yard, table, 0, 1, whole)
        self.tells(("share", 4), judge_kept, yard, table, 1, 1, whole)
        self.tells(("share", 5), judge_kept, yard, table, 1, 2, whole)
        self.tells(None, judge_kept, yard, table, 1, 6, whole)
        self.tells(("led", 1, 1), judge_kept, yard, table, 1, 2, whole[:3] + whole[4:])
        self.tells(("led", 7, 1), judge_kept, yard, table, 1, 2, whole[:8])


class LateFaults(Case):
    def wrong(self, fault, value, p=1, q=2, m=2):
        self.tells(fault, judge_late, Z, TABLE, p, q, m, value)

    def test_form(self):
        self.wrong(None, LATE)
        for odd in ODD + [deep(1), list(LATE), [FIRST, 0]]:
            if odd != ():
                self.wrong(("form",), odd)
            self.wrong(("form",), (odd,) + LATE)
            self.wrong(("form",), LATE + (odd,))
            self.wrong(("form",), put(LATE, 1, (odd, 1)))
            self.wrong(("form",), put(LATE, 1, ((LATE[1][0][0], odd), 1)))
            if odd != (0, 0):
                self.wrong(("form",), put(LATE, 1, ((odd, LATE[1][0][1]), 1)))
            if isinstance(odd, bool) or odd not in (0, 1):
                self.wrong(("form",), put(LATE, 1, (LATE[1][0], odd)))
        for number in (2, 3, 10 ** 39):
            self.wrong(("form",), put(LATE, 3, (LATE[3][0], number)))
            self.wrong(("form",), put(LATE, 3, (LATE[3][0], number)), m=number)
        self.wrong(("form",), put(LATE, 0, (FIRST, 0, 0)))
        self.wrong(("form",), put(LATE, 0, FIRST))
        self.wrong(("form",), put(LATE, 3, (((2, 0), LATE[3][0][1]), 1)))
        self.wrong(("form",), LATE[::-1], m=1)

    def test_order(self):
        self.wrong(("order", 1), ((FIRST, 1),) + LATE)
        self.wrong(("order", 1), ((FIRST, 0), (FIRST, 1)) + LATE[1:])
        self.wrong(("order", 2), LATE[:1] + (LATE[2], LATE[1]) + LATE[3:])
        self.wrong(("order", 1), LATE[::-1], 9, 1)

    def test_first(self):
        self.wrong(("first",), ())
        self.wrong(("first",), LATE[1:])
        self.wrong(("first",), put(LATE, 0, (FIRST, 1)))
        self.wrong(("first",), put(LATE, 0, (((0, 0), (0, 0, 0, 1)), 0)), 9, 1)

    def test_led(self):
        self.wrong(("led", 0, 1), LATE[:1])
        self.wrong(None, LATE[:1], m=1)
        self.wrong(("led", 0, 1), LATE[:1], 9, 1)
        self.wrong(("led", 0, 3), LATE[:1] + LATE[2:])
        self.wrong(("led", 0, 2), LATE[:3])
        # With a number less than m - 1 each request must lead on.
        self.wrong(("led", 1, 1), LATE, m=3)
        self.wrong(("led", 1, 1), put(LATE, 1, (LATE[1][0], 0)))
        # A number that is too great by one.
        self.wrong(("led", 0, 3), put(LATE, 1, (LATE[1][0], 2)), m=4)
        self.wrong(("led", 1, 1), LATE, m=4)

    def test_share(self):
        self.wrong(("share", 1), LATE, 1, 1)
        self.wrong(None, LATE, 10 ** 12 - 1, 10 ** 12)
        whole = late_paper(Z, TABLE, 0, 1, 200)
        self.wrong(("share", 4), whole, 1, 2, 200)
        self.wrong(None, whole, 1, 3, 200)
        self.wrong(None, LATE[:1], 10 ** 12, 1, 1)

    def test_any_papers(self):
        rng = rng_of(193)
        sorts = {}
        for yard, table in some_givers(194):
            for _ in range(6):
                m = rng.choice([1, 2, 3, 4, 9, 200])
                p, q = rng.choice(list(some_pairs(rng, least_share(yard, table))))
                paper = [list(pair) for pair in late_paper(yard, table, 0, 1, m) or ((first_standing(yard), 0),)]
                for pair in paper:
                    if rng.random() < 0.03:
                        pair[1] = rng.randrange(m)
                paper = [tuple(pair) for pair in paper if rng.random() < 0.97]
                if paper and rng.random() < 0.2:
                    paper.insert(rng.randint(0, len(paper)), rng.choice(paper))
                fault = late_by_hand(yard, table, p, q, m, tuple(paper))
                sorts[fault and fault[0]] = True
                self.assertEqual(fault, judge_late(yard, table, p, q, m, tuple(paper)))
        self.assertEqual({None, "order", "first", "led", "share"}, set(sorts))


class Greatness(Case):
    def test_yards_that_are_too_great(self):
        for yard in GREAT:
            self.fails("TooGreat", {}, least_share, yard, ())
            self.fails("TooGreat", {}, kept_paper, yard, (), 1, 2)
            self.fails("TooGreat", {}, met_row, yard, (), 1, 2)
            self.fails("TooGreat", {}, late_paper, yard, (), 1, 2, 3)
            for odd in ODD:
                self.fails("TooGreat", {}, judge_kept, yard, (), 1, 2, odd)
                self.fails("TooGreat", {}, judge_late, yard, (), 1, 2, 3, odd)


if __name__ == "__main__":
    unittest.main()
