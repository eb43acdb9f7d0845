"""S9.5 to S9.7: offices event by event, their books, and why requests are turned away."""

import unittest

from helper import Case, ODD, by_share, deep, outcome, rng_of, yards
from shareforsure.books import earned, total
from shareforsure.eager import FirstGiver
from shareforsure.gifts import given_of, gifts_fault, loads_of
from shareforsure.givers import CallGiver, RowGiver, ToldGiver
from shareforsure.most import most_given
from shareforsure.office import Office
from test_asks import some_days

YARD, NAMES = (1, (1, 3)), ["a", "b"]
DAY = (("come", "a"), ("ask", "r1", ("a", "b")), ("come", "b"), ("ask", "r2", ("a", "b")),
       ("ask", "r3", ("a", "b")), ("fall", "a"), ("ask", "r4", ("a",)))


def looks(office):
    """All that an office tells."""
    return (office.events(), office.is_over(), office.here(), office.loads(), office.row(), office.gifts(),
            office.books(), office.turned_away())


def gone_through(yard, names, day, giver):
    """What an office tells behind each event, with what its steps return."""
    office = Office(yard, names, day, giver)
    told = [looks(office)]
    while not office.is_over():
        told.append((office.step(),) + looks(office))
    return told


def by_hand(yard, names, day, giver):
    """The same, by S9.1 to S9.7."""
    c, worths = yard
    here, row, gifts, books, turned = {}, (), (), [], []

    def now(number):
        return (number, number == len(day), [house for house, name in enumerate(names) if name in here],
                loads_of(yard, gifts), row, gifts, list(books), list(turned))

    told = [now(0)]
    for number, event in enumerate(day):
        entry = None
        if event[0] == "come":
            here[event[1]] = True
        elif event[0] == "fall":
            here.pop(event[1], None)
        else:
            loads = loads_of(yard, gifts)
            request = tuple(house for house, name in enumerate(names) if name in here and name in event[2])
            gift = giver.give(request)
            if type(gift) is not int or gift not in request or loads[gift] == c:
                gift = None
                roomy = [house for house in request if loads[house] < c]
                turned.append((event[1], "left" if roomy else "full" if request else "away"))
            entry = (number, event[1], None if gift is None else names[gift], 0 if gift is None else worths[gift])
            row, gifts = row + (request,), gifts + (gift,)
            books.append(entry)
        told.append((entry,) + now(number + 1))
    return told


def some_offices(seed, many):
    rng = rng_of(seed)
    for _ in range(many):
        yard = yards(rng, 5, 3, rng.choice([1, 3, 10 ** 7]))
        names = rng.sample(["a", "b1", "ask", "come", "none", "x"], len(yard[1]))
        yield rng, yard, names, some_days(rng, names, rng.randint(0, 40))


class Offices(Case):
    def agree(self, yard, names, day, made):
        told = self.value(lambda: gone_through(yard, names, day, made()))
        self.assertEqual(repr(by_hand(yard, names, day, made())), repr(told))

    def test_the_example(self):
        giver = ToldGiver(YARD)
        office = Office(YARD, NAMES, DAY, giver)
        books = [(1, "r1", "a", 1), (3, "r2", "b", 3), (4, "r3", None, 0), (6, "r4", None, 0)]
        wanted = [None, books[0], None, books[1], books[2], None, books[3]]
        self.assertEqual((0, False, [], (0, 0), (), (), [], []), looks(office))
        for number, entry in enumerate(wanted):
            self.assertFalse(office.is_over())
            self.assertEqual(number, office.events())
            self.assertEqual(repr(entry), repr(office.step()))
        self.assertEqual((7, True, [1], (1, 1), ((0,), (0, 1), (0, 1), ()), (0, 1, None, None), books,
                          [("r3", "full"), ("r4", "away")]), looks(office))
        self.assertEqual((1, 1), giver.loads())
        self.assertEqual((4, {"a": 1, "b": 3}), (total(office.books()), earned(office.books())))
        self.assertEqual(("NothingDone", {}), outcome(office.step))
        self.agree(YARD, NAMES, DAY, lambda: ToldGiver(YARD))

    def test_drawn_days(self):
        for _, yard, names, day in some_offices(921, 60):
            for made in (lambda: ToldGiver(yard), lambda: FirstGiver(yard, 1), lambda: FirstGiver(yard, 2),
                         lambda: CallGiver(lambda request: request[-1] if request else 0)):
                self.agree(yard, names, day, made)

    def test_the_day_is_over(self):
        for day in ((), (("come", "a"),), DAY):
            giver = ToldGiver(YARD)
            office = Office(YARD, NAMES, day, giver)
            for _ in day:
                office.step()
            told = looks(office)
            for _ in range(3):
                self.assertEqual(("NothingDone", {}), outcome(office.step))
                self.assertEqual(repr(told), repr(looks(office)))

    def test_coming_again_and_falling_again_do_nothing(self):
        day = (("fall", "a"), ("come", "a"), ("come", "a"), ("ask", "r", ("a",)), ("come", "a"), ("fall", "a"),
               ("fall", "a"), ("come", "a"), ("ask", "s", ("a", "a")))
        office = Office((2, (5,)), ["a"], day, ToldGiver((2, (5,))))
        here, loads = [], []
        while not office.is_over():
            office.step()
            here.append(office.here())
            loads.append(office.loads())
        self.assertEqual([[], [0], [0], [0], [0], [], [], [0], [0]], here)
        self.assertEqual([(0,)] * 3 + [(1,)] * 5 + [(2,)], loads)

    def test_the_giver_is_asked_also_if_nothing_is_seen(self):
        asked = []
        office = Office(YARD, NAMES, (("ask", "r", ("a",)), ("ask", "s", ()), ("come", "b"), ("ask", "t", ("a", "b"))),
                        CallGiver(asked.append))
        while not office.is_over():
            office.step()
        self.assertEqual([(), (), (1,)], asked)
        self.assertEqual((tuple(asked), (None,) * 3), (office.row(), office.gifts()))
        self.assertEqual([("r", "away"), ("s", "away"), ("t", "left")], office.turned_away())

    def test_whatever_cannot_be_given_counts_as_none(self):
        day = (("come", "a"), ("come", "b"), ("come", "c"), ("ask", "f", ("b",)), ("fall", "c"),
               ("ask", "r", ("a", "b", "c")))
        for odd in ODD + [deep(0), [0], (0,), "a", 1, 2, 3, -3, -1, 10 ** 39, True, False, {0: 0},
                          Office(YARD, NAMES, DAY, ToldGiver(YARD))]:
            # House 1 is full, 2 is away, and 3 is none.
            if isinstance(odd, int) and not isinstance(odd, bool) and odd == 0:
                continue
            office = Office((1, (4, 4, 4)), ["a", "b", "c"], day, CallGiver(lambda request: odd if len(request) > 1
                                                                           else 1))
            while not office.is_over():
                entry = office.step()
            self.assertEqual((5, "r", None, 0), entry)
            self.assertEqual(((1, None), (0, 1, 0)), (office.gifts(), office.loads()))
            self.assertEqual(((1,), (0, 1)), office.row())
            self.assertEqual([("r", "left")], office.turned_away())
        # A house that has room, but was not asked of.
        office = Office((1, (4, 4)), ["a", "b"], (("come", "a"), ("come", "b"), ("ask", "r", ("a",))), RowGiver([1]))
        self.assertEqual([None, None, (2, "r", None, 0)], [office.step() for _ in range(3)])

    def test_why_requests_are_turned_away(self):
        day = (("ask", "r1", ()), ("ask", "r2", ("a",)), ("come", "a"), ("ask", "r3", ("a", "b")),
               ("ask", "r4", ("a",)), ("come", "b"), ("ask", "r5", ("a", "b")), ("ask", "r6", ("b", "a")),
               ("ask", "r7", ("b", "a")), ("fall", "a"), ("fall", "b"), ("ask", "r8", ("b", "a")))
        office = Office((1, (1, 1)), ["a", "b"], day, RowGiver([0, 0, 0, 0, None, 1, 1, 1]))
        while not office.is_over():
            office.step()
        self.assertEqual([("r1", "away"), ("r2", "away"), ("r4", "full"), ("r5", "left"), ("r7", "full"),
                          ("r8", "away")], office.turned_away())

    def test_the_told_giver(self):
        turned = {}
        for _, yard, names, day in some_offices(922, 60):
            sure, whole = by_share(yard[0])
            giver = ToldGiver(yard)
            office = Office(yard, names, day, giver)
            while not office.is_over():
                office.step()
                self.assertIsNone(gifts_fault(yard, office.row(), office.gifts()))
                self.assertEqual(giver.loads(), office.loads())
                self.assertGreaterEqual(whole * total(office.books()), sure * most_given(yard, office.row()))
                self.assertEqual(given_of(yard, office.gifts()), total(office.books()))
            turned.update(dict((word, True) for _, word in office.turned_away()))
        self.assertEqual({"away", "full"}, set(turned))

    def test_two_offices_by_turns(self):
        for rng, yard, names, day in some_offices(923, 30):
            other_day = some_days(rng, names, len(day))
            offices = [Office(yard, names, day, ToldGiver(yard)), Office(yard, names, other_day, ToldGiver(yard))]
            told = [[looks(office)] for office in offices]
            while not all(office.is_over() for office in offices):
                number = rng.choice([number for number in (0, 1) if not offices[number].is_over()])
                told[number].append((offices[number].step(),) + looks(offices[number]))
            self.assertEqual(by_hand(yard, names, day, ToldGiver(yard)), told[0])
            self.assertEqual(by_hand(yard, names, other_day, ToldGiver(yard)), told[1])

    def test_one_giver_for_two_offices(self):
        # The giver counts for both, so one office may see it give where that office has no room, or keep some back.
        giver = ToldGiver((1, (2, 2)))
        day = (("come", "a"), ("come", "b"), ("ask", "r", ("a", "b")), ("ask", "s", ("a", "b")))
        one, other = Office((1, (2, 2)), ["a", "b"], day, giver), Office((1, (2, 2)), ["b", "a"], day, giver)
        for office in (one, other, one, other, one, other):
            office.step()
        self.assertEqual(((0,), (1,)), (one.gifts(), other.gifts()))
        self.assertEqual([(3, "s", None, 0)] * 2, [one.step(), other.step()])
        self.assertEqual([[("s", "left")]] * 2, [one.turned_away(), other.turned_away()])

    def test_what_is_passed_is_not_kept_and_what_is_told_is_new(self):
        names = ["a", "b"]
        office = Office(YARD, names, DAY, ToldGiver(YARD))
        names[:] = ["x", "y"]
        while not office.is_over():
            office.step()
        self.assertEqual("a", office.books()[0][2])
        for call in (office.here, office.books, office.turned_away):
            told = call()
            told.append(None)
            self.assertIsNot(told, call())
            self.assertEqual(told[:-1], call())
        self.assertEqual([tuple] * 3, [type(call()) for call in (office.loads, office.row, office.gifts)])
        self.assertEqual({tuple}, {type(entry) for entry in office.books() + office.turned_away()})

    def test_great_days(self):
        rng = rng_of(924)
        yard = (30, tuple(rng.randint(1, 10 ** 7) for _ in range(60)))
        names = [f"h{number}" for number in range(60)]
        day = tuple(("come", name) for name in names) + some_days(rng, names, 1940)
        office = Office(yard, names, day, ToldGiver(yard))
        while not office.is_over():
            office.step()
        self.assertEqual(by_hand(yard, names, day, ToldGiver(yard))[-1][1:], looks(office))


if __name__ == "__main__":
    unittest.main()
