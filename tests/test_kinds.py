"""S2.3: kinds of rows, and gifts that are carried."""

import unittest

from helper import Case, rng_of, rows, some_gifts, yards
from shareforsure.gifts import gifts_fault, given_of, loads_of
from shareforsure.kinds import carried, kinds_of, row_of


class Kinds(Case):
    def test_kinds_of_a_row(self):
        self.tells((), kinds_of, ())
        self.tells((((), 1),), kinds_of, ((),))
        self.tells((((0,), 1), ((0, 1), 1), ((0, 2), 1)), kinds_of, ((0, 1), (0, 2), (0,)))
        self.tells((((), 2), ((0,), 1), ((0, 1, 9), 1), ((0, 2), 3), ((1,), 1), ((10,), 1)), kinds_of,
                   ((0, 2), (10,), (), (0, 2), (1,), (0,), (0, 1, 9), (), (0, 2)))

    def test_row_of(self):
        self.tells((), row_of, ())
        self.tells(((), (), (0,), (0, 2), (0, 2), (0, 2)), row_of, (((), 2), ((0,), 1), ((0, 2), 3)))
        rng = rng_of(51)
        for _ in range(200):
            row = rows(rng, (1, (1,) * 3), rng.randint(0, 9), 3)
            kinds = self.value(kinds_of, row)
            self.tells(tuple(sorted(row)), row_of, kinds)
            self.tells(kinds, kinds_of, self.value(row_of, kinds))
            self.assertEqual({request: row.count(request) for request in row}, dict(kinds))


class Carried(Case):
    def test_request_by_request(self):
        row = ((0, 1), (0, 1), (1,), (0, 1))
        self.tells((1, None, 0, 1), carried, row, (None, 0, 1, 1), ((1,), (0, 1), (0, 1), (0, 1)))
        self.tells((None, 0, 1, 1), carried, row, (None, 0, 1, 1), ((0, 1), (0, 1), (1,), (0, 1)))
        self.tells((None, 0, 1, 1), carried, row, (None, 0, 1, 1), row)
        self.tells((None, 1, 0, 1), carried, row, (None, 0, 1, 1), ((0, 1), (1,), (0, 1), (0, 1)))
        self.tells((), carried, (), (), ())

    def test_rows_that_are_not_alike(self):
        for row, other in ((((0,),), ()), ((), ((0,),)), (((0,), (0,)), ((0,),)), (((0,), (1,)), ((0,), (0,))),
                           (((0,), (0,), (1,)), ((0,), (1,), (1,))), (((),), ((0,),)), (((0, 1),), ((0,),))):
            self.tells(None, carried, row, (None,) * len(row), other)

    def test_what_is_carried(self):
        rng = rng_of(52)
        for _ in range(300):
            yard = yards(rng, 3, 3, 9)
            row = rows(rng, yard, rng.randint(0, 9), 3)
            other = tuple(rng.sample(row, len(row)))
            gifts = some_gifts(rng, yard, row)
            brought = self.value(carried, row, gifts, other)
            self.assertIs(tuple, type(brought))
            self.assertIsNone(gifts_fault(yard, other, brought))
            self.assertEqual(loads_of(yard, gifts), loads_of(yard, brought))
            self.assertEqual(given_of(yard, gifts), given_of(yard, brought))
            self.tells(gifts, carried, other, brought, row)
            for kind in set(row):
                self.assertEqual([gift for request, gift in zip(row, gifts) if request == kind],
                                 [gift for request, gift in zip(other, brought) if request == kind])

    def test_great_rows(self):
        rng = rng_of(53)
        yard = (5, (7,) * 700)
        row = rows(rng, yard, 1500, 50) * 2
        other = tuple(rng.sample(row, len(row)))
        gifts = some_gifts(rng, yard, row)
        brought = carried(row, gifts, other)
        self.assertIsNone(gifts_fault(yard, other, brought))
        self.assertEqual(gifts, carried(other, brought, row))


if __name__ == "__main__":
    unittest.main()
