"""S2.4 to S2.6: ways from gifts to others, doing some of them, and the steps along them."""

import itertools
import unittest

from helper import Case, ODD, rng_of, rows, some_gifts, yards
from shareforsure.gifts import gifts_fault, loads_of
from shareforsure.ways import done, judge_ways, steps_along, ways_between

G = (0, 2, None)
H = (1, 2, 0)


def ends_of(one, other, way):
    """The houses at which an open way begins and ends, None for none; a ring has none."""
    first, last = one[way[0]], other[way[-1]]
    return (None, None) if first == last and first is not None else (first, last)


def fault_by_hand(one, other, ways):
    """The first fault of ways in form, by the words of the document."""
    for request in range(len(one)):
        times = sum(way.count(request) for way in ways)
        if (one[request] != other[request] and times != 1) or (one[request] == other[request] and times):
            return ("request", request)
    for number, way in enumerate(ways):
        for at in range(1, len(way)):
            if other[way[at - 1]] is None or other[way[at - 1]] != one[way[at]]:
                return ("link", number, at)
    ends = [ends_of(one, other, way) for way in ways]
    both = {first for first, _ in ends if first is not None} & {last for _, last in ends if last is not None}
    return ("house", min(both)) if both else None


def is_form_by_hand(value, many):
    """Whether a value is a tuple of tuples, none (), of numbers less than told."""
    if type(value) is not tuple or any(type(way) is not tuple or not way for way in value):
        return False
    return all(type(request) is int and 0 <= request < many for way in value for request in way)


def pairs_of_gifts(rng, many):
    """Yards and rows with two gifts for each."""
    for _ in range(many):
        yard = yards(rng, 5, 3, 9)
        row = rows(rng, yard, rng.randint(0, 9), 4)
        refused = rng.choice([0, 0.2, 0.5])
        yield yard, row, some_gifts(rng, yard, row, refused), some_gifts(rng, yard, row, refused)


class Between(Case):
    def test_the_example(self):
        self.tells(((2, 0),), ways_between, G, H)
        self.tells(((0, 2),), ways_between, H, G)

    def test_equal_gifts(self):
        for gifts in ((), G, H, (None, None)):
            self.tells((), ways_between, gifts, gifts)

    def test_rings(self):
        for one, other in (((0, 1), (1, 0)), ((0, 1, 2), (1, 2, 0)), ((0, 0, 1, 1), (1, 1, 0, 0))):
            ways = self.value(ways_between, one, other)
            self.assertIsNone(fault_by_hand(one, other, ways))
            for way in ways:
                self.assertEqual((None, None), ends_of(one, other, way))
        self.tells(((0,),), ways_between, (None,), (3,))
        self.tells(((0,),), ways_between, (3,), (None,))
        self.tells(((0,),), ways_between, (3,), (4,))

    def test_any_two_gifts(self):
        rng = rng_of(61)
        for _, _, one, other in pairs_of_gifts(rng, 1500):
            ways = self.value(ways_between, one, other)
            self.assertIs(tuple, type(ways))
            self.assertTrue(all(isinstance(way, tuple) and way for way in ways))
            self.assertIsNone(fault_by_hand(one, other, ways))
            self.tells(None, judge_ways, one, other, ways)

    def test_as_many_begin_and_end_as_loads_differ(self):
        rng = rng_of(62)
        for yard, _, one, other in pairs_of_gifts(rng, 400):
            ends = [ends_of(one, other, way) for way in ways_between(one, other)]
            before, after = loads_of(yard, one), loads_of(yard, other)
            for house in range(len(before)):
                self.assertEqual(max(0, before[house] - after[house]), sum(first == house for first, _ in ends))
                self.assertEqual(max(0, after[house] - before[house]), sum(last == house for _, last in ends))

    def test_great_rows(self):
        rng = rng_of(63)
        for houses, c in ((400, 1), (3, 200), (40, 10), (1, 400)):
            yard = (c, (1,) * houses)
            row = rows(rng, yard, 400, houses)
            one, other = some_gifts(rng, yard, row), some_gifts(rng, yard, row)
            ways = ways_between(one, other)
            self.assertIsNone(fault_by_hand(one, other, ways))
            self.assertIsNone(judge_ways(one, other, ways))
            self.assertEqual(other, done(one, other, ways))
        # One long open way, and one ring of all requests.
        one = (None,) + tuple(range(399))
        other = tuple(range(400))
        self.assertEqual((tuple(range(400)),), ways_between(one, other))
        one = (399,) + tuple(range(399))
        self.assertEqual([400], [len(way) for way in ways_between(one, other)])


class Doing(Case):
    def test_the_example(self):
        self.tells(H, done, G, H, ((2, 0),))
        self.tells(G, done, G, H, ())
        self.tells(G, done, H, G, ((0, 2),))

    def test_any_members_of_ways(self):
        rng = rng_of(64)
        for yard, row, one, other in pairs_of_gifts(rng, 250):
            ways = ways_between(one, other)
            before, after = loads_of(yard, one), loads_of(yard, other)
            for many in range(len(ways) + 1):
                for some in itertools.islice(itertools.combinations(ways, many), 12):
                    some = tuple(rng.sample(some, len(some)))
                    gifts = self.value(done, one, other, some)
                    self.assertIsNone(gifts_fault(yard, row, gifts))
                    between = loads_of(yard, gifts)
                    for house, load in enumerate(between):
                        low, high = sorted((before[house], after[house]))
                        self.assertTrue(low <= load <= high)
            self.tells(other, done, one, other, ways)
            self.tells(other, done, one, other, ways[::-1])
            self.tells(one, done, one, other, ())

    def test_the_exchange(self):
        rng = rng_of(65)
        for yard, row, one, other in pairs_of_gifts(rng, 300):
            before, after = loads_of(yard, one), loads_of(yard, other)
            for house in range(len(before)):
                if after[house] > before[house]:
                    way = [way for way in ways_between(one, other) if ends_of(one, other, way)[1] == house][0]
                    gifts = done(one, other, (way,))
                    moved = [new - old for new, old in zip(loads_of(yard, gifts), before)]
                    self.assertIsNone(gifts_fault(yard, row, gifts))
                    self.assertEqual(1, moved[house])
                    less = [at for at, by in enumerate(moved) if by < 0]
                    self.assertIn([moved[at] for at in less], ([], [-1]))
                    self.assertEqual(1, sum(by > 0 for by in moved))
                    self.assertTrue(all(before[at] > after[at] for at in less))


class Steps(Case):
    def test_the_example(self):
        self.tells([H], steps_along, G, H, ((2, 0),))
        self.tells([], steps_along, G, G, ())
        self.tells([], steps_along, (), (), ())

    def test_steps_in_any_sequence(self):
        rng = rng_of(66)
        for yard, row, one, other in pairs_of_gifts(rng, 300):
            ways = ways_between(one, other)
            for _ in range(3):
                ways = tuple(rng.sample(ways, len(ways)))
                steps = self.value(steps_along, one, other, ways)
                self.assertEqual([done(one, other, ways[:at + 1]) for at in range(len(ways))], steps)
                for gifts in steps:
                    self.assertIsNone(gifts_fault(yard, row, gifts))
                self.assertEqual(other, steps[-1] if steps else one)

    def test_lists_are_new(self):
        steps = steps_along(G, H, ((2, 0),))
        steps.append(None)
        self.tells([H], steps_along, G, H, ((2, 0),))


class Judging(Case):
    def judged(self, fault, value, one=G, other=H):
        self.tells(fault, judge_ways, one, other, value)

    def test_right_ways(self):
        self.judged(None, ((2, 0),))
        self.judged(None, (), G, G)
        self.judged(None, ((0, 1),), (0, 1), (1, 0))
        self.judged(None, ((1, 0),), (0, 1), (1, 0))
        self.judged(None, ((0,), (1,)), (0, 0), (1, None))
        # A ring and an open way may meet at a house; so may open ways that both end there.
        self.judged(None, ((0, 1), (2,)), (0, 1, None), (1, 0, 0))
        self.judged(None, ((0, 1), (2,)), (0, 1, 0), (1, 0, None))
        self.judged(None, ((1, 0), (2,)), (0, 1, 0), (1, 0, 2))
        self.judged(None, ((0,), (1,)), (None, None), (1, 1))

    def test_form(self):
        for value in (None, 0, [], [(2, 0)], ((2, 0), ()), ((),), ([2, 0],), ((2, True),), ((False,),), ((2, "0"),),
                      ((2, -1),), ((2, 3),), ((2, 0, 3),), ((2, None),), ((2, (0,)),), (2, 0), "ab", {}, {(2, 0): 1}):
            self.judged(("form",), value)
        self.judged(("form",), ((0, 0), (1,), (3,)))
        self.judged(("form",), ((),), (), ())
        self.judged(("form",), ((0,),), (), ())

    def test_request(self):
        self.judged(("request", 0), ())
        self.judged(("request", 0), ((2,),))
        self.judged(("request", 2), ((0,),))
        self.judged(("request", 1), ((2, 0), (1,)))
        self.judged(("request", 1), ((2, 0, 1),))
        self.judged(("request", 0), ((2, 0, 0),))
        self.judged(("request", 2), ((2, 0), (2,)))
        self.judged(("request", 0), ((2, 0), (2, 0)))
        self.judged(("request", 1), ((0, 2, 1, 1),))

    def test_link(self):
        self.judged(("link", 0, 1), ((0, 2),))
        self.judged(("link", 1, 1), ((0, 1), (3, 2)), (0, 1, 0, 1), (1, 0, 2, 1 + 2))
        self.judged(("link", 0, 2), ((0, 1, 2),), (0, 1, 2), (1, 0, 3))
        # None is no house: what is refused leads to nothing that was refused.
        self.judged(("link", 0, 1), ((0, 1),), (0, None), (None, 0))
        self.judged(("link", 0, 1), ((0, 1), (2,)), (0, None, 1), (None, 1, 0))

    def test_house(self):
        self.judged(("house", 0), ((2,), (0,)))
        self.judged(("house", 0), ((0,), (2,)))
        self.judged(("house", 0), ((0,), (1,)), (0, 1), (1, 0))
        self.judged(("house", 1), ((0,), (1,), (2,), (3,)), (2, 1, None, None), (3, 3, 2, 1))
        self.judged(("house", 4), ((0,), (1,)), (5, 4), (4, 3))

    def test_each_sort_ahead_of_the_next(self):
        one, other = (0, None, 5, 6), (None, 7, 6, 5)
        self.judged(("request", 3), ((0, 1), (2,)), one, other)
        self.judged(("link", 0, 1), ((0, 1), (2,), (3,)), one, other)
        self.judged(("house", 5), ((0,), (1,), (2,), (3,)), one, other)
        self.judged(None, ((0,), (1,), (3, 2)), one, other)

    def test_ways_that_are_changed(self):
        rng = rng_of(67)
        found = {}
        for _, _, one, other in pairs_of_gifts(rng, 2500):
            ways = [list(way) for way in ways_between(one, other)]
            for _ in range(rng.randint(1, 2)):
                self.change(rng, ways, len(one))
            value = tuple(tuple(way) for way in ways if way)
            fault = fault_by_hand(one, other, value)
            found[fault and fault[0]] = True
            self.judged(fault, value, one, other)
        self.assertEqual({None, "request", "link", "house"}, set(found))

    def change(self, rng, ways, many):
        """Cuts a way, joins two, turns one about, or exchanges, adds or drops a request."""
        if not ways or not many:
            return
        way = rng.choice(ways)
        if not way:
            return
        at = rng.randrange(len(way))
        how = rng.randint(0, 6)
        if how <= 1:
            ways.append(way[at:])
            del way[at:]
        elif how == 2:
            way += ways.pop(rng.randrange(len(ways)))
        elif how == 3:
            way.reverse()
        elif how == 4:
            way[at] = rng.randrange(many)
        elif how == 5:
            way.insert(at, rng.randrange(many))
        else:
            way.append(way.pop(0))

    def test_odd_values(self):
        for odd in ODD:
            for value in (odd, (odd,), ((2, 0), odd), ((2, odd),)):
                right = is_form_by_hand(value, len(G))
                self.judged(fault_by_hand(G, H, value) if right else ("form",), value)
        deep = 0
        for _ in range(38):
            deep = (deep,)
        self.judged(("form",), (deep, deep))


if __name__ == "__main__":
    unittest.main()
