"""S8.2 and S8.3: charge papers."""

import itertools
import unittest

from helper import Case, ODD, all_gifts, deep, put, rng_of, rows, some_gifts, yards
from shareforsure.charges import charge_paper, judge_charges
from shareforsure.eager import bare_row, first_gifts
from shareforsure.gifts import given_of
from shareforsure.most import best_gifts
from test_eager import roomier, some_eager

YARD, BARE = bare_row(1, 2)
GIFTS, OTHERS, PAPER = (0, 0, None, None), (1, 1, 0, 0), (0, 1, (0,), (1,))
# Here house 1 is worth more; two gifts of it are told for each request that is not given well enough.
MORE = ((1, (1, 3)), 2, ((0, 1), (0, 1), (1,), (0,)), (1, 1, None, 0), (0, None, 1, None))
MORE_PAPER = (0, None, (0, 1), None)


def fault_by_hand(yard, m, gifts, others, paper):
    """The first fault of a tuple in form."""
    worths = [0 if gift is None else yard[1][gift] for gift in gifts]
    for k, (other, told) in enumerate(zip(others, paper)):
        if (other is None) != (told is None):
            return ("none", k)
    for k, told in enumerate(paper):
        if type(told) is int and (told != k or gifts[k] is None or worths[k] < yard[1][others[k]]):
            return ("own", k)
    for k, told in enumerate(paper):
        if type(told) is tuple and [member for member in told if gifts[member] != others[k]]:
            return ("full", k)
    members = sorted(member for told in paper if type(told) is tuple for member in told)
    twice = [one for one, other in zip(members, members[1:]) if one == other]
    return ("twice", twice[0]) if twice else None


def exists_by_hand(yard, m, gifts, others):
    """Whether there are enough gifts: m for each request that its own gift does not pay."""
    for house, worth in enumerate(yard[1]):
        unpaid = [k for k, other in enumerate(others)
                  if other == house and (gifts[k] is None or yard[1][gifts[k]] < worth)]
        if m * len(unpaid) > gifts.count(house):
            return False
    return True


def some_cases(seed, many):
    rng = rng_of(seed)
    for _ in range(many):
        yard, m = yards(rng, 4, 2, rng.choice([1, 2, 3])), rng.randint(1, 3)
        row = rows(rng, yard, rng.randint(0, 10), 4)
        others = rng.choice([some_gifts(rng, yard, row), some_gifts(rng, yard, row, 0), best_gifts(yard, row)])
        for gifts in (first_gifts(yard, m, row), some_eager(rng, yard, m, row), some_gifts(rng, roomier(yard, m), row),
                      some_gifts(rng, roomier(yard, m), row, 0.8)):
            yield rng, yard, m, row, gifts, others


class Papers(Case):
    def test_the_example(self):
        self.tells(PAPER, charge_paper, YARD, 1, BARE, GIFTS, OTHERS)
        self.tells(None, judge_charges, YARD, 1, BARE, GIFTS, OTHERS, PAPER)
        self.tells(None, judge_charges, YARD, 1, BARE, GIFTS, OTHERS, (0, 1, (1,), (0,)))
        self.tells(MORE_PAPER, charge_paper, *MORE)
        self.tells(None, judge_charges, *MORE, MORE_PAPER)

    def test_eager_gifts_have_one_and_others_exactly_if_there_are_enough(self):
        none = 0
        for number, (_, yard, m, row, gifts, others) in enumerate(some_cases(811, 150)):
            paper = self.value(charge_paper, yard, m, row, gifts, others)
            self.assertEqual(exists_by_hand(yard, m, gifts, others), paper is not None)
            if paper is None:
                self.assertGreater(number % 4, 1)
                none += 1
                continue
            self.assertIs(tuple, type(paper))
            self.assertIsNone(fault_by_hand(yard, m, gifts, others, paper))
            self.tells(None, judge_charges, yard, m, row, gifts, others, paper)
            self.assertLessEqual(m * given_of(yard, others), (m + 1) * given_of(yard, gifts))
        self.assertGreater(none, 50)

    def test_all_papers_of_small_rows(self):
        for yard, m, row in (((1, (1, 2)), 1, ((0, 1), (0, 1))), ((1, (2, 1)), 2, ((0, 1), (0,), (0, 1))),
                             ((2, (1,)), 1, ((0,), (0,), (0,)))):
            charges = [None] + list(range(len(row))) + list(itertools.combinations(range(len(row)), m))
            papers = list(itertools.product(charges, repeat=len(row)))
            for gifts in all_gifts(roomier(yard, m), row):
                for others in all_gifts(yard, row):
                    right = [paper for paper in papers if fault_by_hand(yard, m, gifts, others, paper) is None]
                    paper = charge_paper(yard, m, row, gifts, others)
                    self.assertTrue(paper in right if right else paper is None)

    def test_no_requests_and_nothing_given(self):
        self.tells((), charge_paper, YARD, 3, (), (), ())
        self.tells((None, None), charge_paper, YARD, 3, ((0,), ()), (0, None), (None, None))
        self.tells(None, charge_paper, YARD, 1, ((0,),), (None,), (0,))
        # An own number may be told, and be in a tuple, too.
        self.tells((0, (0,)), charge_paper, (2, (1,)), 1, ((0,), (0,)), (0, None), (0, 0))
        self.tells(None, charge_paper, (2, (1,)), 1, ((0,), (0,), (0,)), (0, None, None), (None, 0, 0))

    def test_great_rows(self):
        for m, c in ((20, 30), (1, 30), (20, 1)):
            yard, row = bare_row(m, c)
            gifts, others = first_gifts(yard, m, row), best_gifts(yard, row)
            paper = charge_paper(yard, m, row, gifts, others)
            self.assertIsNone(judge_charges(yard, m, row, gifts, others, paper))
            self.assertIsNone(fault_by_hand(yard, m, gifts, others, paper))


class Faults(Case):
    def wrong(self, fault, value):
        self.tells(fault, judge_charges, YARD, 1, BARE, GIFTS, OTHERS, value)

    def more(self, fault, value):
        self.tells(fault, judge_charges, *MORE, value)

    def test_form(self):
        for odd in ODD + [deep(1), list(PAPER), PAPER[:3], PAPER + (None,)]:
            self.wrong(("form",), odd)
            self.wrong(("form",), PAPER + (odd,))
            if odd is not None and odd not in (0, 1, (1,)) or isinstance(odd, bool) or repr(odd) == "(True,)":
                self.wrong(("form",), put(PAPER, 3, odd))
                self.wrong(("form",), put(put(PAPER, 0, None), 3, odd))
            number = isinstance(odd, int) and not isinstance(odd, bool) and 0 <= odd < 4
            if not number:
                self.wrong(("form",), put(PAPER, 2, (odd,)))
                self.more(("form",), put(MORE_PAPER, 2, (0, odd)))
        for odd in (4, -1, (4,), (0, 1), (), [0], (-1,), ((0,),)):
            self.wrong(("form",), put(PAPER, 2, odd))
        for odd in ((0,), (1, 0), (1, 1), (0, 1, 2), (0, 4), [0, 1], (0, True), (False, 1), 4, 10 ** 39):
            self.more(("form",), put(MORE_PAPER, 2, odd))

    def test_none(self):
        self.wrong(("none", 1), put(put(PAPER, 1, None), 3, None))
        self.wrong(("none", 0), put(PAPER, 0, None))
        self.more(("none", 1), put(MORE_PAPER, 1, 1))
        self.more(("none", 1), put(MORE_PAPER, 1, (0, 1)))
        self.more(("none", 3), put(put(MORE_PAPER, 0, 1), 3, 3))

    def test_own(self):
        self.wrong(("own", 0), put(PAPER, 0, 1))
        self.wrong(("own", 2), put(PAPER, 2, 2))
        self.wrong(("own", 1), (0, 0, (2,), (3,)))
        # To a house of less worth.
        yard, row = (1, (1, 3)), ((0, 1),)
        self.tells(("own", 0), judge_charges, yard, 1, row, (0,), (1,), (0,))
        self.tells(None, judge_charges, yard, 1, row, (1,), (0,), (0,))
        self.tells(None, judge_charges, (1, (3, 3)), 1, row, (1,), (0,), (0,))
        self.tells(("own", 0), judge_charges, yard, 1, row, (None,), (0,), (0,))

    def test_full(self):
        self.wrong(("full", 2), put(PAPER, 2, (2,)))
        self.wrong(("full", 0), put(PAPER, 0, (0,)))
        self.wrong(("full", 0), ((0,), (0,), (0,), (0,)))
        self.wrong(("full", 3), put(put(PAPER, 2, (1,)), 3, (3,)))
        self.more(("full", 2), put(MORE_PAPER, 2, (0, 3)))
        self.more(("full", 2), put(MORE_PAPER, 2, (1, 2)))

    def test_twice(self):
        self.wrong(("twice", 0), put(PAPER, 3, (0,)))
        self.wrong(("twice", 1), put(PAPER, 2, (1,)))
        yard, row, gifts = (2, (1, 1)), ((0, 1),) * 4 + ((0,), (0,), (1,)), (0, 0, 1, 1, None, None, None)
        others = (None,) * 4 + (0, 0, 1)
        for first, second, third, fault in ((0, 1, 2, None), (1, 0, 3, None), (1, 1, 2, 1), (0, 0, 3, 0)):
            paper = (None,) * 4 + ((first,), (second,), (third,))
            self.tells(None if fault is None else ("twice", fault), judge_charges, yard, 1, row, gifts, others, paper)

    def test_any_papers(self):
        sorts = {}
        for rng, yard, m, row, gifts, others in some_cases(812, 250):
            paper = charge_paper(yard, m, row, gifts, others)
            if not row or len(row) < m:
                continue
            if paper is None:
                paper = tuple(None if other is None else (k if rng.random() < 0.3 else
                                                          tuple(sorted(rng.sample(range(len(row)), m))))
                              for k, other in enumerate(others))
            for _ in range(rng.choice([0, 1, 1, 2])):
                at = rng.randrange(len(row))
                held = [k for k, gift in enumerate(gifts) if gift is not None and gift == others[at]]
                members = tuple(sorted(rng.sample(held if len(held) >= m else range(len(row)), m)))
                paper = put(paper, at, rng.choice([None, at, rng.randrange(len(row)), rng.choice(paper), members]))
            fault = fault_by_hand(yard, m, gifts, others, paper)
            sorts[fault and fault[0]] = True
            self.tells(fault, judge_charges, yard, m, row, gifts, others, paper)
        self.assertEqual({None, "none", "own", "full", "twice"}, set(sorts))


if __name__ == "__main__":
    unittest.main()
