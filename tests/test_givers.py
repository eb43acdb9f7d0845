"""S4.1 and S4.3: givers, their runs, and the told giver."""

import unittest

from helper import Case, ODD, deep, requests, rng_of, rows, told_by_hand, yards
from shareforsure.gifts import gifts_fault, loads_of
from shareforsure.givers import CallGiver, RowGiver, ToldGiver, run

ROW = ((0, 1), (), (0,))


class Asked:
    """A giver that keeps what it is asked, and returns the number of the request."""

    def __init__(self):
        self.row = []

    def give(self, request):
        self.row.append(request)
        return len(self.row) - 1


def told_run(yard, row):
    return run(ToldGiver(yard), row)


def loads_behind(yard, row):
    giver = ToldGiver(yard)
    run(giver, row)
    return giver.loads()


class Runs(Case):
    def test_each_request_once_and_in_order(self):
        giver = Asked()
        self.assertEqual((0, 1, 2), run(giver, ROW))
        self.assertEqual(list(ROW), giver.row)
        self.assertEqual((3,), run(giver, [(1,)]))
        self.assertEqual((), run(giver, ()))
        self.assertEqual(list(ROW) + [(1,)], giver.row)

    def test_runs_are_tuples(self):
        self.assertIs(tuple, type(run(Asked(), list(ROW))))
        self.tells((), told_run, (1, (1,)), [])
        self.tells((0, None, None), told_run, (1, (1, 1)), ((0,), (), (0,)))
        self.tells((0, None, None), told_run, (1, (1, 1)), [(0,), (), (0,)])

    def test_what_is_returned_is_told_as_it_is(self):
        for odd in ODD + [-3, 10 ** 39, "x" * 50, deep(()), [deep(1)], {"a": [1]}]:
            self.tells((odd, odd), lambda: run(RowGiver([odd, odd]), ((), (0,))))
            self.assertEqual(repr((odd, odd)), repr(run(CallGiver(lambda _: odd), ((), (0,)))))
            self.assertEqual(repr(odd), repr(CallGiver(lambda _: odd).give((0,))))
        giver = ToldGiver((1, (1,)))
        self.assertIs(giver, run(RowGiver([giver]), ((),))[0])
        self.assertIs(giver, run(CallGiver(lambda _: giver), ((),))[0])

    def test_call_givers_ask_the_function(self):
        asked = []

        def call(request):
            asked.append(request)
            return [request]

        giver = CallGiver(call)
        self.assertEqual([(0, 1)], giver.give((0, 1)))
        self.assertEqual(([()], [(2,)]), run(giver, ((), (2,))))
        self.assertEqual([(0, 1), (), (2,)], asked)

    def test_row_givers_go_on_where_they_stand(self):
        giver = RowGiver((4, None, True, "a"))
        self.assertEqual(4, giver.give((0,)))
        self.assertEqual(repr((None, True)), repr(run(giver, ((1,), ()))))
        self.assertEqual("a", giver.give(()))
        self.assertEqual((), run(giver, ()))

    def test_row_givers_keep_no_list(self):
        inner, pairs = [1], {"a": [2]}
        members = [inner, (inner, inner), pairs, 5]
        giver = RowGiver(members)
        inner.append(2)
        pairs["a"].append(3)
        members[3] = 6
        self.assertEqual(([1], ([1], [1]), {"a": [2]}, 5), run(giver, ((),) * 4))
        self.assertEqual(([1, 2], ([1, 2], [1, 2]), {"a": [2, 3]}, 6), run(RowGiver(members), ((),) * 4))
        self.tells(([1], [1]), lambda: run(RowGiver([[1]] * 2), ((),) * 2))

    def test_an_error_of_the_function_goes_through(self):
        def call(request):
            raise KeyError(request)

        with self.assertRaises(KeyError):
            CallGiver(call).give((0,))

    def test_several_givers_by_turns(self):
        rng = rng_of(121)
        yard = (2, (3, 5, 4))
        row = rows(rng, yard, 8, 3)
        givers = [ToldGiver(yard), ToldGiver(yard), RowGiver(list(range(8)))]
        gifts = [[], [], []]
        for request in row:
            for giver, found in zip(givers, gifts):
                found.append(giver.give(request))
        self.assertEqual([list(told_by_hand(yard, row))] * 2 + [list(range(8))], gifts)
        self.assertEqual(givers[0].loads(), givers[1].loads())


class Told(Case):
    def test_the_example(self):
        self.tells((0, 1, 0, None), told_run, (2, (1, 1)), ((0, 1), (0, 1), (0,), (0,)))
        self.tells((2, 1), loads_behind, (2, (1, 1)), ((0, 1), (0, 1), (0,), (0,)))

    def test_by_hand(self):
        rng = rng_of(122)
        for _ in range(300):
            yard = yards(rng, 6, rng.choice([1, 2, 3, 30]), rng.choice([1, 2, 9, 10 ** 7]))
            row = rows(rng, yard, rng.randint(0, 15), 6)
            wanted = told_by_hand(yard, row)
            self.tells(wanted, told_run, yard, row)
            self.tells(wanted, told_run, yard, list(row))
            self.assertIsNone(gifts_fault(yard, row, wanted))
            self.tells(loads_of(yard, wanted), loads_behind, yard, row)

    def test_request_by_request(self):
        giver = ToldGiver((1, (3, 1, 1)))
        self.assertEqual((0, 0, 0), giver.loads())
        for request, gift, loads in (((0, 1), 0, (1, 0, 0)), ((0,), None, (1, 0, 0)), ((), None, (1, 0, 0)),
                                     ((0, 2), 2, (1, 0, 1)), ((0, 1, 2), 1, (1, 1, 1)), ((0, 1, 2), None, (1, 1, 1))):
            self.assertEqual(gift, giver.give(request))
            self.assertEqual(loads, giver.loads())
            self.assertIs(tuple, type(giver.loads()))

    def test_a_told_giver_goes_on_where_it_stands(self):
        rng = rng_of(123)
        for _ in range(50):
            yard = yards(rng, 4, 3, 5)
            row = rows(rng, yard, 10, 4)
            giver = ToldGiver(yard)
            end = rng.randint(0, 10)
            self.assertEqual(told_by_hand(yard, row), run(giver, row[:end]) + run(giver, row[end:]))

    def test_equal_pulls_go_to_the_least_number(self):
        self.tells((0, 1, 2, 0, 1, 2, None), told_run, (2, (4, 4, 4)), ((0, 1, 2),) * 7)
        # The house of the worth 5 with a request pulls as much as that of the worth 3 without: 15.
        self.tells((0, 0), told_run, (2, (5, 3)), ((0, 1),) * 2)
        self.tells((1, 0), told_run, (2, (3, 5)), ((0, 1),) * 2)
        # Of loads that are not equal, nor the worths.
        self.tells((2, 0), told_run, (2, (3, 1, 5)), ((0, 1, 2),) * 2)
        self.tells((0, 0, 1), told_run, (2, (5, 3, 3)), ((0, 1, 2), (0, 1, 2), (1, 2)))

    def test_equal_worths_go_by_the_least_load(self):
        rng = rng_of(124)
        for _ in range(100):
            yard = (rng.randint(1, 30), (rng.randint(1, 9),) * rng.randint(1, 6))
            giver = ToldGiver(yard)
            for request in rows(rng, yard, 20, 5):
                loads = giver.loads()
                wanted = min([(loads[house], house) for house in request if loads[house] < yard[0]],
                             default=(0, None))[1]
                self.assertEqual(wanted, giver.give(request))

    def test_full_houses_and_empty_requests(self):
        self.tells((None, None), told_run, (1, (1, 2)), ((), ()))
        self.tells((0, None, 1, None, None), told_run, (1, (9, 1)), ((0,), (0,), (0, 1), (0, 1), (1,)))
        self.tells((0,) * 30 + (None,), told_run, (30, (10 ** 7,)), ((0,),) * 31)

    def test_great_rows(self):
        rng = rng_of(125)
        for c, worth in ((30, 10 ** 7), (1, 10 ** 7), (4, 1)):
            yard = (c, tuple(rng.randint(1, worth) for _ in range(700)))
            row = tuple(requests(rng, yard, 30) for _ in range(3000))
            self.assertEqual(told_by_hand(yard, row), run(ToldGiver(yard), row))


if __name__ == "__main__":
    unittest.main()
