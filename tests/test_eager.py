"""S8.1 and S8.4: eager gifts, the first giver, and the bare row."""

import unittest

from helper import Case, all_gifts, put, requests, rng_of, rows, some_gifts, yards
from shareforsure.eager import FirstGiver, bare_row, first_gifts, is_eager
from shareforsure.gifts import gifts_fault, given_of, loads_of
from shareforsure.givers import run
from shareforsure.most import most_given, most_so_far
from shareforsure.sheets import check_row, check_yard


def roomier(yard, m):
    return m * yard[0], yard[1]


def first_by_hand(yard, m, row):
    """What the first giver gives, by the loads so far."""
    gifts = ()
    for request in row:
        loads = loads_of(yard, gifts)
        gifts += (min([(-yard[1][house], house) for house in request if loads[house] < m * yard[0]],
                      default=(0, None))[1],)
    return gifts


def eager_by_hand(yard, m, row, gifts):
    """Whether each gift is to one of the best houses with room, wherever there is one."""
    for number, request in enumerate(row):
        loads = loads_of(yard, gifts[:number])
        worths = [yard[1][house] for house in request if loads[house] < m * yard[0]]
        if worths and (gifts[number] is None or yard[1][gifts[number]] != max(worths)):
            return False
    return True


def some_eager(rng, yard, m, row):
    """Eager gifts, any of the best houses each time."""
    loads, gifts = [0] * len(yard[1]), []
    for request in row:
        roomy = [house for house in request if loads[house] < m * yard[0]]
        best = [house for house in roomy if yard[1][house] == max(yard[1][other] for other in roomy)]
        gift = rng.choice(best) if best else None
        if gift is not None:
            loads[gift] += 1
        gifts.append(gift)
    return tuple(gifts)


def first_run(yard, m, row):
    return run(FirstGiver(yard, m), row)


class FirstGivers(Case):
    def test_the_example(self):
        self.tells((0, 0, None, None), first_gifts, (2, (1, 1)), 1, ((0, 1), (0, 1), (0,), (0,)))

    def test_least_numbers_among_equal_worths(self):
        self.tells((1, 1, 2, 0, None), first_gifts, (1, (3, 5, 5)), 2, ((0, 1, 2), (1, 2), (0, 1, 2), (0, 1), ()))
        self.tells((0,) * 3 + (1,) * 3 + (None,), first_gifts, (1, (4, 4)), 3, ((0, 1),) * 7)
        # The load does not matter, only whether there is room.
        self.tells((1, 1, 1, 1, 0), first_gifts, (2, (8, 9)), 2, ((0, 1),) * 5)

    def test_empty_requests_and_full_houses(self):
        self.tells((None, None), first_gifts, (1, (1,)), 3, ((), ()))
        self.tells((0, None, 0, None, None), first_gifts, (1, (1,)), 2, ((0,), (), (0,), (0,), (0,)))
        self.tells((), first_gifts, (1, (1,)), 1, ())

    def test_by_hand(self):
        rng = rng_of(801)
        for _ in range(200):
            yard, m = yards(rng, 5, 3, rng.choice([1, 2, 9])), rng.randint(1, 4)
            row = rows(rng, yard, rng.randint(0, 20), 5)
            wanted = first_by_hand(yard, m, row)
            self.tells(wanted, first_gifts, yard, m, row)
            self.tells(wanted, first_run, yard, m, row)
            self.tells(wanted, first_run, yard, m, list(row))
            self.assertIs(tuple, type(first_gifts(yard, m, row)))
            self.assertIsNone(gifts_fault(roomier(yard, m), row, wanted))
            self.tells(True, is_eager, yard, m, row, wanted)

    def test_request_by_request(self):
        giver, other = FirstGiver((1, (3, 5)), 2), FirstGiver((1, (3, 5)), 1)
        for request, gift, others in (((0, 1), 1, 1), ((), None, None), ((1,), 1, None), ((0, 1), 0, 0),
                                      ((0, 1), 0, None), ((0, 1), None, None)):
            self.assertEqual(repr(gift), repr(giver.give(request)))
            self.assertEqual(repr(others), repr(other.give(request)))

    def test_great_rows(self):
        rng = rng_of(802)
        yard = (30, tuple(rng.randint(1, 10 ** 7) for _ in range(700)))
        row = tuple(requests(rng, yard, 30) for _ in range(3000))
        gifts = first_gifts(yard, 20, row)
        self.assertEqual(tuple(max(request, key=lambda house: yard[1][house], default=None) for request in row), gifts)
        self.assertTrue(is_eager(yard, 20, row, gifts))
        whole = (tuple(range(700)),) * 3000
        best = sorted(range(700), key=lambda house: (-yard[1][house], house))
        self.assertEqual(tuple(best[number // 600] for number in range(3000)), first_gifts(yard, 20, whole))


class Eagerness(Case):
    def test_small_rows_with_all_gifts(self):
        for yard, m, row in (((1, (1, 1)), 1, ((0, 1), (0,), (1,))), ((1, (2, 1)), 2, ((0, 1), (0, 1), (0,), (0, 1))),
                             ((2, (1, 3, 3)), 1, ((0, 1, 2), (1, 2), (1,), (1, 2))), ((1, (1,)), 1, ((), (0,), (0,)))):
            told = []
            for gifts in all_gifts(roomier(yard, m), row):
                told.append(is_eager(yard, m, row, gifts))
                self.tells(eager_by_hand(yard, m, row, gifts), is_eager, yard, m, row, gifts)
            self.assertEqual({True, False}, set(told))

    def test_eager_gifts_and_such_with_one_otherwise(self):
        rng = rng_of(803)
        no = 0
        for _ in range(300):
            yard, m = yards(rng, 5, 3, rng.choice([1, 2, 3])), rng.randint(1, 3)
            row = rows(rng, yard, rng.randint(1, 12), 5)
            gifts = some_eager(rng, yard, m, row)
            self.assertTrue(eager_by_hand(yard, m, row, gifts))
            self.tells(True, is_eager, yard, m, row, gifts)
            at = rng.randrange(len(row))
            for gift in (None,) + row[at]:
                other = put(gifts, at, gift)
                if gifts_fault(roomier(yard, m), row, other) is None:
                    no += not eager_by_hand(yard, m, row, other)
                    self.tells(eager_by_hand(yard, m, row, other), is_eager, yard, m, row, other)
            other = some_gifts(rng, roomier(yard, m), row)
            self.tells(eager_by_hand(yard, m, row, other), is_eager, yard, m, row, other)
        self.assertGreater(no, 100)

    def test_plain_cases(self):
        yard, row = (1, (2, 2, 1)), ((0, 1, 2), (0, 1, 2))
        for gifts, wanted in (((0, 1), True), ((1, 0), True), ((0, 2), False), ((2, 0), False), ((0, None), False),
                              ((None, 0), False), ((None, None), False)):
            self.tells(wanted, is_eager, yard, 1, row, gifts)
        self.tells(True, is_eager, yard, 2, row, (0, 0))
        self.tells(True, is_eager, yard, 1, ((), ()), (None, None))
        self.tells(True, is_eager, yard, 1, (), ())
        # Where all that are named are full, nothing can be given.
        self.tells(True, is_eager, yard, 1, ((0,), (0,)), (0, None))
        self.tells(False, is_eager, yard, 2, ((0,), (0,)), (0, None))


class BareRows(Case):
    def test_the_example(self):
        self.tells(((2, (1, 1)), ((0, 1), (0, 1), (0,), (0,))), bare_row, 1, 2)
        self.tells(((1, (1, 1, 1)), ((0, 1, 2), (0, 1, 2), (0,))), bare_row, 2, 1)

    def test_the_first_giver_gives_just_its_part(self):
        for m in (1, 2, 3, 20):
            for c in (1, 2, 5, 30):
                yard, row = self.value(bare_row, m, c)
                self.assertIsNone(check_yard(yard))
                self.assertIsNone(check_row(yard, row))
                gifts = first_gifts(yard, m, row)
                self.assertEqual((0,) * (m * c) + (None,) * c, gifts)
                self.assertEqual(m * c, given_of(yard, gifts))
                if m * c < 50:
                    self.assertEqual((m + 1) * c, most_given(yard, row))

    def test_eager_gifts_have_their_part_at_each_request(self):
        rng = rng_of(804)
        for _ in range(60):
            yard, m = yards(rng, 4, 2, 3), rng.randint(1, 3)
            row = rows(rng, yard, rng.randint(1, 10), 4)
            for gifts in (first_gifts(yard, m, row), some_eager(rng, yard, m, row)):
                for end, most in enumerate(most_so_far(yard, row), 1):
                    self.assertGreaterEqual((m + 1) * given_of(yard, gifts[:end]), m * most)


if __name__ == "__main__":
    unittest.main()
