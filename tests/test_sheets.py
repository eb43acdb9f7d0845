"""S1.1 and S1.2: yards, rows, tables and sheets, and the path to what is wrong in them first."""

import unittest

from helper import Case, ODD, rng_of, sheets
from shareforsure.sheets import check_row, check_sheet, check_table, check_yard, names_of, part_named

YARD = (2, (3, 1, 1))
ROW = ((0, 1, 2), (), (1,), (0, 2), (1,))
TABLE = ((((0, 0, 0), ()), None), (((0, 0, 0), (0, 1)), 1), (((0, 0, 0), (1,)), None),
         (((0, 2, 1), (0, 1, 2)), 2), (((2, 2, 2), (0,)), None))
SHEET = (YARD, (("row", "r", ROW), ("gifts", "g", (None, 0, 2, 2, 2)), ("cover", "v", ((5, 0), (1, 2, 3, 4))),
                ("giver", "t", TABLE), ("row", "e", ()), ("gifts", "f", ()), ("cover", "w", ((), ())),
                ("giver", "u", ())))
# Each of these is wrong itself wherever it stands in a yard, a row, a table or a sheet.
WRONG = ([], {}, [0], "A b", True, False, -1, 10 ** 39)


def places(value, path=()):
    """All places in a value."""
    yield path
    if isinstance(value, tuple):
        for at, member in enumerate(value):
            yield from places(member, path + (at,))


def put(value, path, odd):
    """The value with something else at a place."""
    if path == ():
        return odd
    at = path[0]
    return value[:at] + (put(value[at], path[1:], odd),) + value[at + 1:]


def may_be_great(path):
    """Whether any number may stand at a place of the sheet: the room, a worth, a cover's member."""
    return path == (0, 0) or path[:2] == (0, 1) and len(path) == 3 or path[:3] == (1, 2, 2) and len(path) == 5


class Yards(Case):
    def test_right_ones(self):
        for yard in ((1, (1,)), (100, (10 ** 6,) * 1000), (3, (1, 2, 3)), (10 ** 39, (10 ** 39,))):
            self.tells(None, check_yard, yard)

    def test_wrong_ones(self):
        wrong = [(value, ()) for value in (None, 1, "a", [1, (1,)], (), (1,), (1, (1,), 1), {}, True)]
        wrong += [((value, (1,)), (0,)) for value in (0, -1, True, False, None, "1", (), [1])]
        wrong += [((1, value), (1,)) for value in ((), None, 1, [1], [], {}, "a", True)]
        wrong += [((1, (1, value, 0)), (1, 1)) for value in (0, -1, True, False, None, "1", (), [1])]
        wrong += [((0, ()), (0,)), ((True, [1]), (0,)), ((1, (0,)), (1, 0))]
        for value, path in wrong:
            self.fails("BadTree", {"path": path}, check_yard, value)


class Rows(Case):
    def test_right_ones(self):
        for row in ((), ((),), ROW, ((0, 1, 2),) * 5000):
            self.tells(None, check_row, YARD, row)

    def test_wrong_ones(self):
        wrong = [(value, ()) for value in (None, 1, [], [()], {}, "ab", True)]
        wrong += [(((), value), (1,)) for value in (None, 0, [], [0], {}, "a", False)]
        wrong += [(((0,), (0, value)), (1, 1)) for value in (3, 0, -1, True, None, "1", (), [1])]
        wrong += [(((2, 1),), (0, 1)), (((1, 1),), (0, 1)), (((3,), 0), (0, 0)), (((0, 2, 1, 7), 5), (0, 2)),
                  (((False,),), (0, 0)), (((-1, 0),), (0, 0))]
        for value, path in wrong:
            self.fails("BadTree", {"path": path}, check_row, YARD, value)


class Tables(Case):
    def test_right_ones(self):
        for table in ((), TABLE, TABLE[1:], TABLE[:1]):
            self.tells(None, check_table, YARD, table)

    def wrong(self, path, *pairs):
        self.fails("BadTree", {"path": path}, check_table, YARD, tuple(pairs))

    def test_wrong_forms(self):
        for value in (None, 0, [], list(TABLE), {}, "a"):
            self.fails("BadTree", {"path": ()}, check_table, YARD, value)
        for pair in (None, 0, (), (TABLE[0][0],), TABLE[0] + (None,), list(TABLE[0]), {}):
            self.wrong((0,), pair)
            self.wrong((1,), TABLE[0], pair, pair)
        for case in (None, 0, (), ((0, 0, 0),), ((0, 0, 0), (), ()), [(0, 0, 0), ()], "ab"):
            self.wrong((0, 0), (case, 7))

    def test_wrong_loads_and_requests(self):
        for loads in (None, 0, (), (0, 0), (0, 0, 0, 0), [0, 0, 0], {}):
            self.wrong((0, 0, 0), ((loads, 5), 7))
        for load in (3, -1, True, False, None, "0", ()):
            self.wrong((0, 0, 0, 1), (((0, load, 9), 5), 7))
        for request in (None, 0, [], [0], {}, "a"):
            self.wrong((0, 0, 1), (((0, 0, 0), request), 7))
        for house in (3, 0, -1, True, None, "1", ()):
            self.wrong((0, 0, 1, 1), (((0, 0, 0), (0, house, 9)), 7))

    def test_gifts(self):
        for gift in (0, 2, 3, -1, True, False, "1", (), (1,), [], [1], {}):
            self.wrong((0, 1), (((0, 0, 0), (1,)), gift))
        self.wrong((0, 1), (((0, 2, 0), (0, 1)), 1))
        self.wrong((1, 1), (((0, 2, 0), (0, 1)), 0), (((2, 2, 2), (0, 1)), 0))
        self.tells(None, check_table, YARD, ((((0, 1, 0), (0, 1)), 1),))

    def test_pairs_ascend(self):
        first, second = (((0, 0, 1), (1,)), 9), (((0, 0, 1), (1,)), 1)
        self.wrong((0, 1), first)
        for ahead in (((0, 0, 1), (1,)), ((0, 0, 1), (1, 2)), ((0, 0, 1), (2,)), ((0, 0, 2), ()), ((1, 0, 0), ())):
            # The pair does not ascend, and its gift is wrong too: member 0 comes first.
            self.wrong((1, 0), (ahead, None), first)
            self.wrong((1, 0), (ahead, None), second)
        for ahead in (((0, 0, 1), ()), ((0, 0, 1), (0, 1, 2)), ((0, 0, 0), (2,))):
            self.tells(None, check_table, YARD, ((ahead, None), second))
        # A wrong request of a pair that does not ascend is told itself.
        self.wrong((1, 0, 1, 0), (((1, 0, 0), ()), None), (((0, 0, 0), (5,)), None))

    def test_the_order_is_that_of_the_pair_ahead(self):
        self.wrong((2, 0), (((0, 0, 0), ()), None), (((2, 0, 0), ()), None), (((1, 0, 0), ()), None))


class Sheets(Case):
    def test_right_ones(self):
        for sheet in (SHEET, (YARD, ()), ((1, (1,)), (("gifts", "g", (None,) * 50000),))):
            self.tells(None, check_sheet, sheet)
        rng = rng_of(11)
        for _ in range(200):
            self.tells(None, check_sheet, sheets(rng))

    def test_one_thing_wrong_at_each_place(self):
        for path in places(SHEET):
            for odd in WRONG:
                value = put(SHEET, path, odd)
                if odd == 10 ** 39 and may_be_great(path):
                    self.tells(None, check_sheet, value)
                else:
                    self.fails("BadTree", {"path": path}, check_sheet, value)

    def test_a_list_where_a_tuple_is_asked(self):
        for path in places(SHEET):
            value = SHEET
            for at in path:
                value = value[at]
            if isinstance(value, tuple):
                self.fails("BadTree", {"path": path}, check_sheet, put(SHEET, path, list(value)))

    def test_too_few_and_too_many_members(self):
        told = [(), (0,), (1, 0), (1, 2, 2), (1, 3, 2, 0), (1, 3, 2, 0, 0), (1, 3, 2, 0, 0, 0)]
        for path in told:
            value = SHEET
            for at in path:
                value = value[at]
            for other in (value[:-1], value + value[:1], ()):
                self.fails("BadTree", {"path": path}, check_sheet, put(SHEET, path, other))

    def test_the_first_of_several_is_told(self):
        rng = rng_of(12)
        every = list(places(SHEET))
        for _ in range(600):
            paths = sorted(rng.sample(every, rng.randint(2, 4)), reverse=True)
            value = SHEET
            for path in paths:
                value = put(value, path, rng.choice([[], {}, True, -1, "A b"]))
            self.fails("BadTree", {"path": paths[-1]}, check_sheet, value)

    def test_words_and_names(self):
        yard = (1, (1,))
        for word in ("", "rows", "Row", "yard", None, 0, ("row",), ["row"]):
            self.fails("BadTree", {"path": (1, 0, 0)}, check_sheet, (yard, ((word, "?", None),)))
        for name in ("", "A", "1", "abcdefghijklm", None, 0, True, ["a"], {}):
            self.fails("BadTree", {"path": (1, 0, 1)}, check_sheet, (yard, (("row", name, None),)))
        for word in ("row", "gifts", "cover", "giver"):
            value = ((), ()) if word == "cover" else ()
            right = (yard, ((word, "a", value), ("row", "b", ())))
            self.tells(None, check_sheet, right)
            # The same name in another part, whatever its sort, and ahead of that part's value.
            self.fails("BadTree", {"path": (1, 2, 1)}, check_sheet, (yard, right[1] + ((word, "a", 7),)))
            self.fails("BadTree", {"path": (1, 2, 1)}, check_sheet, (yard, right[1] + ((word, "b", value),)))

    def test_parts_are_held_against_the_yard(self):
        for part, path in ((("row", "a", ((1,),)), (0, 0)), (("gifts", "a", (0, 1)), (1,)),
                           (("gifts", "a", (True,)), (0,)), (("cover", "a", ((), (0, -1))), (1, 1)),
                           (("cover", "a", ((None,), 5)), (0, 0)),
                           (("giver", "a", ((((2,), ()), None),)), (0, 0, 0, 0)),
                           (("giver", "a", ((((1,), (0,)), 0),)), (0, 1))):
            self.fails("BadTree", {"path": (1, 0, 2) + path}, check_sheet, ((1, (1,)), (part,)))

    def test_odd_values(self):
        for odd in ODD:
            if not isinstance(odd, tuple) or len(odd) != 2:
                self.fails("BadTree", {"path": ()}, check_yard, odd)
                self.fails("BadTree", {"path": ()}, check_sheet, odd)
            self.fails("BadTree", {"path": (1, 0)}, check_sheet, (YARD, (odd,)))

    def test_deep_values(self):
        deep = ()
        for _ in range(39):
            deep = (deep,)
        self.fails("BadTree", {"path": ()}, check_sheet, deep)
        self.fails("BadTree", {"path": (0,)}, check_row, YARD, (list(deep),))
        self.fails("BadTree", {"path": (0, 0)}, check_row, YARD, deep)


class Parts(Case):
    def test_part_named(self):
        for part in SHEET[1]:
            self.tells(part, part_named, SHEET, part[1])

    def test_names_that_are_not_there(self):
        for name in ["q", "R", "", "row", 0, 1, -1, None, True, False, [], ["r"], {}, {"r": 1}, ("r",), ()]:
            self.fails("UnknownName", {"name": name}, part_named, SHEET, name)
            self.fails("UnknownName", {"name": name}, part_named, (YARD, ()), name)

    def test_names_of(self):
        self.tells(["r", "e"], names_of, SHEET, "row")
        self.tells(["g", "f"], names_of, SHEET, "gifts")
        self.tells(["v", "w"], names_of, SHEET, "cover")
        self.tells(["t", "u"], names_of, SHEET, "giver")
        for word in ("row", "gifts", "cover", "giver"):
            self.tells([], names_of, (YARD, ()), word)
            names = names_of(SHEET, word)
            names.append("more")
            self.assertNotIn("more", names_of(SHEET, word))


if __name__ == "__main__":
    unittest.main()
