"""S2.1 and S2.2: gifts, and what they come to."""

import unittest

from helper import Case, ODD, all_gifts, requests, rng_of, rows, some_gifts, yards
from shareforsure.gifts import full_of, gifts_fault, given_of, left_of, loads_of

Y = (1, (3, 1, 1))
R = ((0, 1), (0, 2), (0,))
G = (0, 2, None)
H = (1, 2, 0)


def fault_by_hand(yard, row, gifts):
    """The first fault of a tuple of gifts in form."""
    for request, gift in enumerate(gifts):
        if gift is not None and gift not in row[request]:
            return ("gift", request)
    for request, gift in enumerate(gifts):
        if gift is not None and gifts[:request].count(gift) >= yard[0]:
            return ("room", request)
    return None


class Faults(Case):
    def test_right_gifts(self):
        for gifts in (G, H, (None, None, None), (1, 0, None), (None, 0, None)):
            self.tells(None, gifts_fault, Y, R, gifts)
        self.tells(None, gifts_fault, Y, (), ())
        self.tells(None, gifts_fault, (3, (1,)), ((0,),) * 4, (0, 0, None, 0))
        rng = rng_of(41)
        for _ in range(100):
            yard = yards(rng, 5, 3, 9)
            row = rows(rng, yard, rng.randint(0, 8), 5)
            self.tells(None, gifts_fault, yard, row, some_gifts(rng, yard, row))

    def test_form(self):
        for value in ([0, 2, None], (0, 2), (0, 2, None, None), (), (0, 2, True), (False, 2, None), (0, "2", None),
                      (0, -1, None), (0, 2, ()), (0, (2,), None), (0, [2], None), ({}, 2, None), "abc", None, 3):
            self.fails_with(("form",), value)
        # Form comes first, wherever it is wrong.
        self.fails_with(("form",), (2, 0, True))
        self.fails_with(("form",), (0, 0, -1))

    def fails_with(self, fault, value):
        self.tells(fault, gifts_fault, Y, R, value)

    def test_gift(self):
        self.fails_with(("gift", 0), (2, 2, 0))
        self.fails_with(("gift", 1), (0, 1, 1))
        self.fails_with(("gift", 2), (0, 2, 3))
        self.fails_with(("gift", 0), (10 ** 39, None, None))
        # Ahead of room, though it is behind it in the row.
        self.fails_with(("gift", 2), (0, 0, 2))
        self.tells(("gift", 0), gifts_fault, Y, ((),), (0,))

    def test_room(self):
        self.fails_with(("room", 1), (0, 0, None))
        self.fails_with(("room", 2), (0, 2, 0))
        self.fails_with(("room", 1), (0, 0, 0))
        self.tells(("room", 3), gifts_fault, (2, (1, 1)), ((0, 1),) * 6, (0, 1, 0, 0, 1, 1))
        self.tells(("room", 5), gifts_fault, (3, (1, 1)), ((0, 1),) * 6, (0, 1, 0, 1, 1, 1))

    def test_any_gifts(self):
        rng = rng_of(42)
        for _ in range(1500):
            yard = yards(rng, 4, 2, 3)
            row = rows(rng, yard, rng.randint(0, 5), 4)
            gifts = tuple(rng.choice([None, None, *request, *request, rng.randint(0, 4)]) for request in row)
            self.tells(fault_by_hand(yard, row, gifts), gifts_fault, yard, row, gifts)

    def test_odd_values(self):
        for odd in ODD:
            if odd != ():
                self.tells(("form",), gifts_fault, Y, R, odd)
            wanted = None if odd is None or odd == 0 and odd is not False else ("gift", 1)
            right = odd is None or isinstance(odd, int) and not isinstance(odd, bool) and odd >= 0
            self.tells(wanted if right else ("form",), gifts_fault, Y, R, (1, odd, None))
        deep = None
        for _ in range(38):
            deep = (deep,)
        self.tells(("form",), gifts_fault, Y, R, (deep, deep, deep))


class Sums(Case):
    def test_the_examples(self):
        self.tells((1, 0, 1), loads_of, Y, G)
        self.tells(4, given_of, Y, G)
        self.tells([2], left_of, G)
        self.tells([0, 2], full_of, Y, G)
        self.tells((1, 1, 1), loads_of, Y, H)
        self.tells(5, given_of, Y, H)
        self.tells([], left_of, H)
        self.tells([0, 1, 2], full_of, Y, H)

    def test_no_gifts(self):
        self.tells((0, 0, 0), loads_of, Y, ())
        self.tells(0, given_of, Y, (None, None))
        self.tells([], left_of, ())
        self.tells([0, 1], left_of, (None, None))
        self.tells([], full_of, Y, (None,))

    def test_lists_are_new(self):
        left_of(G).append(7)
        full_of(Y, G).append(7)
        self.tells([2], left_of, G)
        self.tells([0, 2], full_of, Y, G)

    def test_sums_agree(self):
        rng = rng_of(43)
        for _ in range(200):
            yard = yards(rng, 6, 3, 50)
            row = rows(rng, yard, rng.randint(0, 12), 6)
            gifts = some_gifts(rng, yard, row)
            loads = self.value(loads_of, yard, gifts)
            self.assertEqual(tuple(gifts.count(house) for house in range(len(yard[1]))), loads)
            self.tells(sum(load * worth for load, worth in zip(loads, yard[1])), given_of, yard, gifts)
            self.tells([at for at in range(len(row)) if gifts[at] is None], left_of, gifts)
            self.tells([house for house in range(len(loads)) if loads[house] == yard[0]], full_of, yard, gifts)

    def test_great_yards(self):
        rng = rng_of(44)
        for c in (1, 4, 10 ** 6):
            yard = (c, tuple(rng.randint(1, 10 ** 9) for _ in range(700)))
            row = tuple(requests(rng, yard, 60) for _ in range(3000))
            gifts = some_gifts(rng, yard, row)
            self.assertIsNone(gifts_fault(yard, row, gifts))
            self.assertEqual(sum(yard[1][gift] for gift in gifts if gift is not None), given_of(yard, gifts))
            self.assertEqual(len(row), sum(loads_of(yard, gifts)) + len(left_of(gifts)))
            self.assertTrue(all(gifts.count(house) == c for house in full_of(yard, gifts)))

    def test_all_gifts_of_a_row_are_right(self):
        every = list(all_gifts(Y, R))
        self.assertEqual(12, len([gifts for gifts in every if gifts_fault(Y, R, gifts) is None]))
        self.assertEqual(12, len(every))


if __name__ == "__main__":
    unittest.main()
