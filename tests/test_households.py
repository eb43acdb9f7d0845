"""S9.1 to S9.3: households, how they change, and what is seen."""

import copy
import unittest

from helper import Case, ODD, deep, outcome, rng_of, yards
from shareforsure.errors import BadAct, UnknownName
from shareforsure.households import Household

NAMES = ["a", "b1", "row", "x", "none", "abcdefghijkl", "zz", "q9"]
NO_NAMES = ODD + ["A", "b", "", "a ", "b1x", deep("a"), ["a"], ("a",), {"a": "a"}, 0, 1, True]


class Plain:
    """The same once more, all in one dict a house."""

    def __init__(self, yard, names):
        self.c = yard[0]
        self.houses = [{"name": name, "worth": worth, "here": False, "load": 0}
                       for name, worth in zip(names, yard[1])]

    def house(self, name):
        for house in self.houses:
            if type(name) is str and house["name"] == name:
                return house
        raise UnknownName(name)

    def come(self, name):
        if self.house(name)["here"]:
            raise BadAct("here")
        self.house(name)["here"] = True

    def fall(self, name):
        if not self.house(name)["here"]:
            raise BadAct("away")
        self.house(name)["here"] = False

    def take(self, name):
        if not self.house(name)["here"]:
            raise BadAct("away")
        if self.house(name)["load"] >= self.c:
            raise BadAct("full")
        self.house(name)["load"] += 1

    def seen(self, names):
        told = [self.house(name) for name in names]
        return tuple(number for number, house in enumerate(self.houses) if house["here"] and house in told)


def looks(household, yard, names):
    """All that a household tells."""
    return (household.yard(), household.names(), [household.name_of(number) for number in range(len(names))],
            [household.number_of(name) for name in names], [household.worth_of(name) for name in names],
            [household.is_here(name) for name in names], [household.room_of(name) for name in names],
            household.here(), household.loads(), household.seen(names), household.seen(names[::-1] * 2))


def looks_by_hand(plain, yard, names):
    here = [number for number, house in enumerate(plain.houses) if house["here"]]
    return (yard, list(names), list(names), list(range(len(names))), [house["worth"] for house in plain.houses],
            [house["here"] for house in plain.houses], [plain.c - house["load"] for house in plain.houses],
            here, tuple(house["load"] for house in plain.houses), tuple(here), tuple(here))


class Households(Case):
    def agree(self, household, plain, yard, names):
        self.assertEqual(repr(looks_by_hand(plain, yard, names)), repr(looks(household, yard, names)))

    def test_all_are_away_at_first(self):
        yard = (2, (3, 1))
        household = Household(yard, ["a", "b"])
        wanted = (yard, ["a", "b"], ["a", "b"], [0, 1], [3, 1], [False, False], [2, 2], [], (0, 0), (), ())
        self.assertEqual(repr(wanted), repr(looks(household, yard, ["a", "b"])))

    def test_many_changes(self):
        rng = rng_of(901)
        words = {}
        for _ in range(60):
            yard = yards(rng, 6, 3, 9)
            names = rng.sample(NAMES, len(yard[1]))
            household, plain = Household(yard, rng.choice([list, tuple])(names)), Plain(yard, names)
            for _ in range(60):
                word = rng.choice(["come", "fall", "take", "take", "seen"])
                if word == "seen":
                    passed = [rng.choice(names) for _ in range(rng.randint(0, 8))]
                    if rng.random() < 0.2:
                        passed.insert(rng.randint(0, len(passed)), rng.choice(NO_NAMES))
                        passed += rng.choice([[], ["A"]])
                else:
                    passed = rng.choice(names) if rng.random() < 0.9 else rng.choice(NO_NAMES)
                wanted = outcome(getattr(plain, word), copy.deepcopy(passed))
                words[word, wanted[0], repr(wanted[1])[:20] if wanted[0] == "BadAct" else ""] = True
                self.assertEqual(repr(wanted), repr(outcome(getattr(household, word), passed)))
                self.agree(household, plain, yard, names)
        self.assertLessEqual({("come", "BadAct", "{'word': 'here'}"), ("fall", "BadAct", "{'word': 'away'}"),
                              ("take", "BadAct", "{'word': 'away'}"), ("take", "BadAct", "{'word': 'full'}"),
                              ("take", "value", ""), ("seen", "UnknownName", ""), ("seen", "value", ""),
                              ("take", "UnknownName", "")}, set(words))

    def test_a_load_stays_while_a_house_is_away(self):
        household = Household((2, (7,)), ["a"])
        for call, wanted in (("come", (2, (0,))), ("take", (1, (1,))), ("fall", (1, (1,))), ("come", (1, (1,))),
                             ("take", (0, (2,))), ("fall", (0, (2,))), ("come", (0, (2,)))):
            self.assertIsNone(getattr(household, call)("a"))
            self.assertEqual(wanted, (household.room_of("a"), household.loads()))
        self.assertEqual(("BadAct", {"word": "full"}), outcome(household.take, "a"))
        self.assertEqual((0,), household.seen(["a"]))

    def test_what_is_seen(self):
        household = Household((1, (1, 2, 3)), ("c", "b", "a"))
        household.come("c")
        household.come("a")
        household.take("c")
        # Who is full may be named, who is away is not.
        self.assertEqual((0, 2), household.seen(["a", "b", "c"]))
        self.assertEqual((0,), household.seen(("c", "c", "b", "c")))
        self.assertEqual((), household.seen(["b", "b"]))
        self.assertEqual((), household.seen([]))
        self.assertIs(tuple, type(household.seen(["a"])))

    def test_names_that_are_none_ahead_of_all_else(self):
        household = Household((1, (1, 2)), ["a", "b"])
        household.come("a")
        household.take("a")
        for odd in NO_NAMES:
            if odd in ("a", "b"):
                continue
            for call in (household.number_of, household.worth_of, household.is_here, household.room_of,
                         household.come, household.fall, household.take):
                self.assertEqual(repr(("UnknownName", {"name": odd})), repr(outcome(call, odd)))
            for passed in ([odd], ["a", odd, "c"], ("b", "b", odd)):
                self.assertEqual(repr(("UnknownName", {"name": odd})), repr(outcome(household.seen, passed)))
        self.assertEqual(("UnknownName", {"name": household}), outcome(household.come, household))
        self.assertEqual(((1, (1, 2)), [0], (1, 0)), (household.yard(), household.here(), household.loads()))

    def test_what_is_passed_is_not_kept_and_what_is_told_is_new(self):
        names = ["a", "b"]
        household = Household((1, (1, 2)), names)
        names[0] = "c"
        names.append("d")
        self.assertEqual(["a", "b"], household.names())
        household.come("b")
        for call in (household.names, household.here):
            told = call()
            self.assertIsNot(told, call())
            told.append(7)
            self.assertEqual(told[:-1], call())
        self.assertEqual(1, household.number_of("b"))
        passed = ["b", "a"]
        household.seen(passed)
        self.assertEqual(["b", "a"], passed)

    def test_two_households(self):
        one, other = (Household((1, (1,)), ["a"]) for _ in range(2))
        one.come("a")
        one.take("a")
        self.assertEqual(([], (0,)), (other.here(), other.loads()))


if __name__ == "__main__":
    unittest.main()
