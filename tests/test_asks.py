"""S9.4: days, and the first wrong part of what is none."""

import unittest

from helper import Case, ODD, deep, put, rng_of
from shareforsure.asks import check_day
from shareforsure.households import Household

NAMES = ["a", "b", "c3"]
DAY = (("come", "a"), ("ask", "r1", ("a", "b")), ("fall", "a"), ("ask", "r2", ()), ("ask", "a", ("b", "b", "c3")),
       ("come", "a"), ("come", "a"), ("fall", "b"))


def some_days(rng, names, many):
    """A day with so many events."""
    day, asked = [], 0
    for _ in range(many):
        word = rng.choice(["come", "fall", "ask", "ask"])
        if word == "ask":
            asked += 1
            day.append((word, rng.choice(["r", "x", "ask"]) + str(asked),
                        tuple(rng.choice(names) for _ in range(rng.randint(0, 4)))))
        else:
            day.append((word, rng.choice(names)))
    return tuple(day)


class Days(Case):
    def wrong(self, path, value, names=NAMES):
        self.fails("BadTree", {"path": path}, check_day, names, value)

    def test_days(self):
        for day in (DAY, (), (("come", "c3"),), (("ask", "c3", ()),), (("ask", "ask", ("a",) * 9),)):
            self.tells(None, check_day, NAMES, day)
            self.tells(None, check_day, tuple(NAMES), day)
        self.tells(None, check_day, ["a"], (("ask", "come", ("a",)), ("ask", "r", ("a",)), ("fall", "a")))
        rng = rng_of(911)
        for _ in range(50):
            self.tells(None, check_day, NAMES, some_days(rng, NAMES, rng.randint(0, 20)))
        self.assertIsNone(check_day(NAMES, some_days(rng, NAMES, 2000)))

    def test_no_tuple(self):
        for odd in ODD + [list(DAY), "come", {0: ("come", "a")}]:
            if not isinstance(odd, tuple):
                self.wrong((), odd)

    def test_something_odd_at_each_place(self):
        for odd in ODD + [deep(1), Household((1, (1,)), ["a"]), ["come", "a"], "come", ("come",), ("come", "a", "b"),
                          ("ask", "r9"), ("ask", "r9", (), ()), ("went", "a"), ("Come", "a"), (["come"], "a"),
                          (("come",), "a"), (None, "a"), ({}, "a"), ("ask", ("r9", ())), ("take", "a")]:
            for k in range(len(DAY)):
                self.wrong((k,), put(DAY, k, odd))
            self.wrong((8,), DAY + (odd,))
            self.wrong((0,), (odd,) + DAY)

    def test_houses_that_are_none(self):
        for odd in ODD + ["A", "d", "c", "c3 ", "r1", ["a"], ("a",), 0, deep("a")]:
            if odd == "a":
                continue
            for k in (0, 2, 5, 7):
                self.wrong((k, 1), put(DAY, k, (DAY[k][0], odd)))
            for k, i in ((1, 0), (1, 1), (4, 2)):
                self.wrong((k, 2, i), put(DAY, k, put(DAY[k], 2, put(DAY[k][2], i, odd))))
        self.wrong((0, 1), DAY, ["b", "c3"])
        self.wrong((1, 2, 1), DAY, ["a", "c3"])
        self.wrong((0, 1), DAY, [])
        self.wrong((4, 2, 2), DAY, ["b", "a"])

    def test_names_of_requests(self):
        for odd in ODD + ["A", "1a", "", "abcdefghijklm", "a-b", "r 1", ["r"], ("r",), deep("r")]:
            if odd not in ("a", "row"):
                for k in (1, 3, 4):
                    self.wrong((k, 1), put(DAY, k, put(DAY[k], 1, odd)))
        self.wrong((3, 1), put(DAY, 3, ("ask", "r1", ())))
        self.wrong((4, 1), put(DAY, 4, ("ask", "r2", (0,))))
        self.wrong((4, 1), put(DAY, 4, ("ask", "r1", ["a"])))
        # Ahead of what stands behind it, and behind what stands ahead.
        self.wrong((1, 2, 0), put(put(DAY, 1, ("ask", "r2", ("d",))), 3, ("ask", "r2", ())))

    def test_houses_that_are_no_tuple(self):
        for odd in ODD + [["a", "b"], "a", {"a": 1}]:
            if not isinstance(odd, tuple):
                self.wrong((1, 2), put(DAY, 1, ("ask", "r1", odd)))
        self.wrong((1, 2, 0), put(DAY, 1, ("ask", "r1", (("a",),))))

    def test_the_first_of_two(self):
        self.wrong((1, 2, 1), put(put(DAY, 1, ("ask", "r1", ("a", "d", "e"))), 2, ("fall", "e")))
        self.wrong((0, 1), put(put(DAY, 0, ("come", "d")), 1, ()))
        self.wrong((1,), put(put(DAY, 1, ("ask", "r1")), 2, ("fall", "d")))
        self.wrong((1, 1), put(DAY, 1, ("ask", "R", ["d"])))


if __name__ == "__main__":
    unittest.main()
