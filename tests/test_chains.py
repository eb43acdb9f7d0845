"""S3.6: chains, their gains, and gifts that are led on by them."""

import unittest

from helper import Case, ODD, all_gifts, rng_of, rows, some_gifts, yards
from shareforsure.chains import chain_done, chain_for, gain, judge_chain
from shareforsure.gifts import gifts_fault, given_of
from shareforsure.most import best_gifts, most_given

Y = (1, (3, 1, 1))
R = ((0, 1), (0, 2), (0,))
G = (0, 2, None)


def is_form_by_hand(yard, row, value):
    """Whether a value is a tuple of at least one pair of a request's and a house's number."""
    if type(value) is not tuple or not value:
        return False
    if any(type(pair) is not tuple or len(pair) != 2 for pair in value):
        return False
    numbers = [(number, many) for pair in value for number, many in zip(pair, (len(row), len(yard[1])))]
    return all(type(number) is int and 0 <= number < many for number, many in numbers)


def fault_by_hand(yard, row, gifts, value):
    """The first fault of what should be a chain, by the words of the document."""
    if not is_form_by_hand(yard, row, value):
        return ("form",)
    told = [request for request, _ in value]
    for at, request in enumerate(told):
        if request in told[:at]:
            return ("again", at)
    for at, (request, house) in enumerate(value):
        if house not in row[request] or gifts[request] == house:
            return ("named", at)
    for at in range(1, len(value)):
        if gifts[told[at]] is None or gifts[told[at]] != value[at - 1][1]:
            return ("broken", at)
    left_out = gifts[:told[0]] + (None,) + gifts[told[0] + 1:]
    return ("full",) if left_out.count(value[-1][1]) >= yard[0] else None


class Chains(Case):
    def led_on(self, yard, row, gifts, chain):
        """Looks a chain with a gain through, and returns the gifts that come of it."""
        self.assertIs(tuple, type(chain))
        self.assertIsNone(fault_by_hand(yard, row, gifts, chain))
        by = gain(yard, gifts, chain)
        self.assertGreater(by, 0)
        led = chain_done(gifts, chain)
        self.assertIs(tuple, type(led))
        self.assertIsNone(gifts_fault(yard, row, led))
        self.assertEqual(given_of(yard, gifts) + by, given_of(yard, led))
        return led

    def test_the_example(self):
        chain = self.value(chain_for, Y, R, G)
        led = self.led_on(Y, R, G, chain)
        self.assertEqual(5, given_of(Y, led))
        self.tells(None, chain_for, Y, R, (1, 2, 0))
        self.tells(1, gain, Y, G, ((2, 0), (0, 1)))
        self.tells((1, 2, 0), chain_done, G, ((2, 0), (0, 1)))

    def test_what_is_empty(self):
        self.tells(None, chain_for, Y, (), ())
        self.tells(None, chain_for, Y, ((), ()), (None, None))
        self.tells(((0, 0),), chain_for, Y, ((0,),), (None,))

    def test_a_chain_just_if_gifts_are_not_best(self):
        rng = rng_of(81)
        for _ in range(60):
            yard = yards(rng, 3, 2, 4)
            row = rows(rng, yard, rng.randint(0, 5), 3)
            every = list(all_gifts(yard, row))
            most = max(given_of(yard, gifts) for gifts in every)
            for gifts in rng.sample(every, min(40, len(every))):
                chain = self.value(chain_for, yard, row, gifts)
                if given_of(yard, gifts) == most:
                    self.assertIsNone(chain)
                else:
                    self.led_on(yard, row, gifts, chain)
                    self.tells(None, judge_chain, yard, row, gifts, chain)

    def test_from_a_lesser_house_to_a_greater_one(self):
        self.tells(((0, 1),), chain_for, (1, (1, 2)), ((0, 1),), (0,))
        self.tells(None, chain_for, (1, (1, 2)), ((0, 1),), (1,))
        self.tells(None, chain_for, (1, (2, 2)), ((0, 1),), (0,))
        # Through a house of the same worth, and through one of more, that are both full.
        for worths in ((2, 2, 3), (2, 5, 3)):
            self.tells(((0, 1), (1, 2)), chain_for, (1, worths), ((0, 1), (1, 2)), (0, 1))

    def test_chain_by_chain_to_the_most(self):
        rng = rng_of(82)
        for _ in range(200):
            yard = yards(rng, 6, 3, 9)
            row = rows(rng, yard, rng.randint(0, 12), 4)
            gifts = some_gifts(rng, yard, row, rng.choice([0, 0.3, 1]))
            chain = chain_for(yard, row, gifts)
            while chain is not None:
                gifts = self.led_on(yard, row, gifts, chain)
                chain = chain_for(yard, row, gifts)
            self.assertEqual(most_given(yard, row), given_of(yard, gifts))

    def test_great_yards(self):
        rng = rng_of(83)
        for c, many, most in ((1, 120, 4), (2, 300, 80), (60, 300, 6)):
            yard = (c, tuple(rng.randint(1, 10 ** 9) for _ in range(80)))
            row = rows(rng, yard, many, most)
            for refused in (0, 0.5, 1):
                gifts = some_gifts(rng, yard, row, refused)
                chain = chain_for(yard, row, gifts)
                while chain is not None:
                    gifts = self.led_on(yard, row, gifts, chain)
                    chain = chain_for(yard, row, gifts)
                self.assertEqual(most_given(yard, row), given_of(yard, gifts))
            self.assertIsNone(chain_for(yard, row, best_gifts(yard, row)))

    def test_one_long_chain_over_all_requests(self):
        for houses in (2, 80, 301):
            yard = (1, (5,) * (houses - 1) + (6,))
            row = tuple((house, house + 1) for house in range(houses - 1))
            gifts = tuple(range(houses - 1))
            chain = self.value(chain_for, yard, row, gifts)
            self.assertEqual(tuple((at, at + 1) for at in range(houses - 1)), chain)
            self.tells(1, gain, yard, gifts, chain)
            self.tells(tuple(range(1, houses)), chain_done, gifts, chain)
            self.tells(None, judge_chain, yard, row, gifts, chain)
            # The same with a request that is not given ahead.
            row, gifts = ((0,),) + row, (None,) + gifts
            chain = self.value(chain_for, yard, row, gifts)
            self.assertEqual(houses, len(chain))
            self.tells(6, gain, yard, gifts, chain)

    def test_gains(self):
        yard = (1, (4, 2, 2, 7))
        for gifts, chain, by in (((0,), ((0, 1),), -2), ((1,), ((0, 2),), 0), ((1,), ((0, 0),), 2),
                                 ((None,), ((0, 3),), 7), ((0, 3), ((0, 3), (1, 1)), -2),
                                 ((None, 3), ((0, 3), (1, 2)), 2),
                                 ((3, 1, 0), ((0, 1), (1, 0), (2, 2)), -5)):
            self.tells(by, gain, yard, gifts, chain)
            led = self.value(chain_done, gifts, chain)
            self.assertEqual(given_of(yard, gifts) + by, given_of(yard, led))


class Judging(Case):
    def judged(self, fault, value, yard=Y, row=R, gifts=G):
        self.tells(fault, judge_chain, yard, row, gifts, value)

    def test_right_chains(self):
        self.judged(None, ((2, 0), (0, 1)))
        self.judged(None, ((0, 1),))
        self.judged(None, ((0, 1), ), (1, (1, 1)), ((0, 1),), (0,))
        self.judged(None, ((0, 1), (1, 0)), (1, (3, 1)), ((0, 1), (0, 1)), (0, 1))
        self.judged(None, ((0, 1),), (2, (3, 1)), ((0, 1), (1,)), (0, 1))

    def test_form(self):
        for value in (None, 0, (), [], [(2, 0)], ([2, 0],), ((2,),), ((2, 0, 0),), ((),), (2, 0), ((True, 0),),
                      ((2, False),), ((2, 0), None), ((2, -1),), ((-1, 0),), ((3, 0),), ((2, 3),), ((2, "0"),),
                      ((2, None),), ((2, 0), (2, 0), (0, 3)), "ab", ("ab",), {}, {(2, 0): 1}, (((2,), 0),)):
            self.judged(("form",), value)

    def test_again(self):
        self.judged(("again", 1), ((2, 0), (2, 0)))
        self.judged(("again", 2), ((2, 0), (0, 1), (2, 1)))
        self.judged(("again", 2), ((2, 2), (0, 2), (0, 1), (2, 1)))

    def test_named(self):
        self.judged(("named", 0), ((2, 1), (0, 1)))
        self.judged(("named", 1), ((2, 0), (0, 2)))
        self.judged(("named", 0), ((0, 0),))
        self.judged(("named", 1), ((2, 0), (0, 0)))
        # Ahead of what is broken earlier.
        self.judged(("named", 2), ((0, 1), (2, 0), (1, 2)))

    def test_broken(self):
        self.judged(("broken", 1), ((2, 0), (1, 0)))
        self.judged(("broken", 1), ((0, 1), (2, 0)))
        self.judged(("broken", 1), ((1, 0), (2, 0)))
        self.judged(("broken", 2), ((2, 0), (0, 1), (1, 0)))

    def test_full(self):
        self.judged(("full",), ((2, 0),))
        self.judged(("full",), ((1, 0),))
        self.judged(("full",), ((0, 1),), (2, (1, 1)), ((0, 1), (1,), (1,)), (0, 1, 1))
        self.judged(None, ((0, 1),), (3, (1, 1)), ((0, 1), (1,), (1,)), (0, 1, 1))

    def test_the_last_house_is_counted_without_the_first_request(self):
        # Back to the house of the first request, which is full with it and has room without.
        row, gifts = ((0, 1), (0, 1), (0,)), (0, 1, 0)
        self.judged(None, ((0, 1), (1, 0)), (2, (1, 1)), row, gifts)
        self.judged(None, ((2, 1), (1, 0)), (2, (1, 1)), ((0,), (0, 1), (0, 1)), (0, 1, 0))
        self.judged(("full",), ((0, 1), (1, 0)), (1, (1, 1)), row, gifts)
        # Others of the chain that leave the last house on the way still count.
        row, gifts = ((0, 1), (0, 1), (0, 1), (0, 1)), (None, 0, 1, 1)
        self.judged(("full",), ((0, 0), (1, 1), (2, 0)), (1, (1, 1)), row[:3], gifts[:3])
        self.judged(None, ((0, 0), (1, 1), (2, 0)), (2, (1, 1)), row, gifts)

    def test_chains_that_are_made_up(self):
        rng = rng_of(84)
        found = {}
        for _ in range(6000):
            yard = yards(rng, 3, 2, 3)
            row = rows(rng, yard, rng.randint(1, 4), 3)
            gifts = some_gifts(rng, yard, row)
            houses = len(yard[1])
            value = []
            for _ in range(rng.randint(1, 3)):
                before = value[-1][1] if value else None
                fits = [at for at in range(len(row)) if gifts[at] == before and before is not None]
                request = rng.choice(fits) if fits and rng.random() < 0.8 else rng.randrange(len(row))
                named = row[request] if row[request] and rng.random() < 0.9 else range(houses)
                value.append((request, rng.choice(named)))
            fault = fault_by_hand(yard, row, gifts, tuple(value))
            found[fault and fault[0]] = True
            self.judged(fault, tuple(value), yard, row, gifts)
            if fault is None:
                led = chain_done(gifts, tuple(value))
                self.assertIsNone(gifts_fault(yard, row, led))
                self.assertEqual(given_of(yard, gifts) + gain(yard, gifts, tuple(value)), given_of(yard, led))
        self.assertEqual({None, "again", "named", "broken", "full"}, set(found))

    def test_odd_values(self):
        for odd in ODD:
            for value in (odd, (odd,), ((2, 0), odd), ((2, odd),), ((odd, 0),), ((0, 1), (odd, 0))):
                self.judged(fault_by_hand(Y, R, G, value), value)
        deep = 0
        for _ in range(38):
            deep = (deep,)
        self.judged(("form",), (deep, deep))


if __name__ == "__main__":
    unittest.main()
