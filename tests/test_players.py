"""S5.1 to S5.4: sizes, their levels and bounds, and plays of a player against givers."""

import itertools
import unittest

import helper
from helper import Case, ODD, Scripted, by_share, outcome, rng_of
from shareforsure.errors import BadGift
from shareforsure.gifts import gifts_fault
from shareforsure.givers import CallGiver, RowGiver, ToldGiver, run
from shareforsure.most import most_given
from shareforsure.players import best_sizes, bound_of, levels, play, player_sizes


def all_sizes(n):
    """All sizes there are for so many houses."""
    for many in range(n):
        for rest in itertools.combinations(range(n - 1, 0, -1), many):
            yield (n,) + rest


def some_sizes(rng, most):
    n = rng.randint(1, most)
    return (n,) + tuple(sorted(rng.sample(range(1, n), rng.randint(0, min(5, n - 1))), reverse=True))


def greatest_of(total, many, kept):
    """What so many greatest of numbers make together that are laid as equal as can be."""
    numbers = [0] * many
    for at in range(total):
        numbers[at % many] += 1
    return sum(sorted(numbers, reverse=True)[:kept])


def levels_by_hand(c, sizes):
    found = [0]
    for size, behind in zip(sizes, sizes[1:]):
        found.append(greatest_of(found[-1] + c * (size - behind), size, behind))
    return tuple(found)


def row_by_hand(c, sizes, gifts):
    """The row that the player makes, for the gifts that came (S5.1)."""
    houses, row = list(range(sizes[0])), []
    for phase, size in enumerate(sizes):
        loads = [gifts[:len(row)].count(house) for house in range(sizes[0])]
        houses = sorted(sorted(houses, key=lambda house: (-loads[house], house))[:size])
        behind = sizes[phase + 1] if phase + 1 < len(sizes) else 0
        row += [tuple(houses)] * (c * (size - behind))
    return tuple(row)


def givers(rng, c, houses):
    """Givers of many sorts, which give no more than there is room."""
    def by(pick):
        return Scripted(c, houses, lambda request, roomy, loads: pick(roomy, loads) if roomy else None)
    return [by(lambda roomy, loads: min(roomy, key=lambda house: (loads[house], house))),
            by(lambda roomy, loads: min(roomy, key=lambda house: (loads[house], -house))),
            by(lambda roomy, loads: max(roomy, key=lambda house: (loads[house], house))),
            by(lambda roomy, loads: roomy[0]), by(lambda roomy, loads: roomy[-1]), by(lambda roomy, loads: None),
            by(lambda roomy, loads: rng.choice(roomy)), by(lambda roomy, loads: rng.choice(roomy + [None])),
            ToldGiver((c, (1,) * houses))]


class Sizes(Case):
    def test_the_example(self):
        self.tells((9, 6, 4), player_sizes, 2)
        self.tells((0, 6, 8), levels, 2, (9, 6, 4))
        self.tells(10, bound_of, 2, (9, 6, 4))

    def test_one_size(self):
        for c in (1, 4):
            self.tells((0,), levels, c, (7,))
            self.tells(7 * c, bound_of, c, (7,))
        self.tells((0, 1), levels, 1, (2, 1))
        self.tells(1, bound_of, 1, (2, 1))

    def test_the_player_for_a_room(self):
        for c in range(1, 7):
            sizes = self.value(player_sizes, c)
            self.assertEqual(tuple((c + 1) ** (c - i) * c ** i for i in range(c + 1)), sizes)
            self.tells(tuple(i * size for i, size in enumerate(sizes)), levels, c, sizes)
            self.tells(c * by_share(c)[0], bound_of, c, sizes)
        self.tells((2, 1), player_sizes, 1)
        self.tells((64, 48, 36, 27), player_sizes, 3)

    def test_levels_against_loads_that_are_as_equal_as_can_be(self):
        rng = rng_of(141)
        for _ in range(400):
            c, sizes = rng.randint(1, 6), some_sizes(rng, 60)
            told = self.value(levels, c, sizes)
            self.assertIs(tuple, type(told))
            self.assertEqual(levels_by_hand(c, sizes), told)
            self.tells(c * sizes[0] - told[-1], bound_of, c, sizes)

    def test_great_sizes(self):
        sizes = tuple(range(700, 0, -1))
        self.assertEqual(levels_by_hand(3, sizes), levels(3, sizes))
        self.assertEqual(2100 - levels(3, sizes)[-1], bound_of(3, sizes))


class Best(Case):
    def right(self, c, n):
        sizes = self.value(best_sizes, c, n)
        self.assertIs(tuple, type(sizes))
        self.assertEqual(n, sizes[0])
        self.assertEqual(sorted(set(sizes), reverse=True), list(sizes))
        self.assertGreaterEqual(sizes[-1], 1)
        return bound_of(c, sizes)

    def test_the_example(self):
        self.assertEqual(2, self.right(1, 3))
        self.tells(2, bound_of, 1, (3, 2))

    def test_all_sizes_of_few_houses(self):
        for c in range(1, 7):
            for n in range(1, 10):
                self.assertEqual(min(bound_of(c, sizes) for sizes in all_sizes(n)), self.right(c, n))

    def test_a_hundred_houses(self):
        for c in range(1, 7):
            # The greatest level with each last size, from the least size on up; kept in another way.
            for n in (99, 100):
                known = {}

                def greatest(last, n=n, c=c, known=known):
                    if last not in known:
                        ahead = [(size, greatest(size)) for size in range(last + 1, n + 1)] if last < n else []
                        known[last] = max([self.behind(c, size, level, last) for size, level in ahead], default=0)
                    return known[last]

                self.assertEqual(c * n - max(greatest(last) for last in range(n, 0, -1)), self.right(c, n))

    def behind(self, c, size, level, last):
        total = level + c * (size - last)
        return total // size * last + min(total % size, last)

    def test_sizes_of_the_player_are_best(self):
        for c in (1, 2, 3):
            sizes = player_sizes(c)
            self.assertEqual(bound_of(c, sizes), self.right(c, sizes[0]))


class Plays(Case):
    def test_the_examples(self):
        row, gifts = play(2, (9, 6, 4), givers(None, 2, 9)[0])
        self.assertEqual((tuple(range(9)),) * 6 + (tuple(range(6)),) * 4 + (tuple(range(4)),) * 8, row)
        self.assertEqual((0, 1, 2, 3, 4, 5, 0, 1, 2, 3) + (None,) * 8, gifts)
        given = [2, None, 0, None, 0, None]
        wanted = ((0, 1, 2), (0, 1, 2), (0, 2), (0, 2), (0,), (0,))
        self.tells((wanted, tuple(given)), lambda: play(2, (3, 2, 1), RowGiver(given)))

    def test_rows_by_hand(self):
        rng = rng_of(142)
        for _ in range(60):
            c, sizes = rng.randint(1, 4), some_sizes(rng, 12)
            for giver in givers(rng, c, sizes[0]):
                row, gifts = play(c, sizes, giver)
                self.assertEqual((tuple, tuple), (type(row), type(gifts)))
                self.assertEqual(row_by_hand(c, sizes, gifts), row)
                self.assertEqual(c * sizes[0], len(row))
                self.assertIsNone(gifts_fault((c, (1,) * sizes[0]), row, gifts))
                self.assertLessEqual(len(gifts) - gifts.count(None), bound_of(c, sizes))
                if isinstance(giver, Scripted):
                    self.assertEqual(list(row), giver.asked)

    def test_all_could_be_given(self):
        rng = rng_of(143)
        for _ in range(40):
            c, sizes = rng.randint(1, 3), some_sizes(rng, 9)
            for giver in givers(rng, c, sizes[0]):
                row, _ = play(c, sizes, giver)
                self.assertEqual(len(row), most_given((c, (1,) * sizes[0]), row))

    def test_the_told_giver_gives_just_the_bound_of_the_player_for_a_room(self):
        for c in (1, 2, 3):
            sizes = player_sizes(c)
            sure, whole = by_share(c)
            row, gifts = play(c, sizes, ToldGiver((c, (1,) * whole)))
            self.assertEqual(c * whole, len(row))
            self.assertEqual(c * sure, len(gifts) - gifts.count(None))
            for giver in givers(rng_of(144), c, whole):
                _, others = play(c, sizes, giver)
                self.assertLessEqual(len(others) - others.count(None), c * sure)

    def test_a_play_again_is_the_same(self):
        self.same(lambda: play(3, (8, 5, 2), ToldGiver((3, (1,) * 8))))
        row, gifts = play(3, (8, 5, 2), ToldGiver((3, (1,) * 8)))
        self.assertEqual(gifts, run(ToldGiver((3, (1,) * 8)), row))
        self.tells((row, gifts), lambda: play(3, (8, 5, 2), RowGiver(gifts)))

    def test_great_plays(self):
        for c, sizes in ((3, tuple(range(700, 0, -7))), (1, tuple(range(700, 0, -1))), (6, (400, 333, 90, 1))):
            giver = givers(None, c, sizes[0])[1]
            row, gifts = play(c, sizes, giver)
            self.assertEqual(c * sizes[0], len(row))
            self.assertLessEqual(len(gifts) - gifts.count(None), bound_of(c, sizes))
            self.assertEqual(list(row), giver.asked)


class BadGifts(Case):
    def test_the_first_one_that_is_none(self):
        for odd in ODD + [helper.deep(0), [0], -1, 3, 10 ** 20, "0", ToldGiver((1, (1,)))]:
            if odd is None or odd == 0 and odd is not False or odd == 1 and odd is not True:
                continue
            for number in range(6):
                asked = []

                def call(request, asked=asked, number=number, odd=odd):
                    asked.append(request)
                    return odd if len(asked) == number + 1 else None

                with self.assertRaises(BadGift) as caught:
                    play(2, (3, 2, 1), CallGiver(call))
                self.assertEqual(number, caught.exception.number)
                # It is asked in order, and not again.
                self.assertEqual([(0, 1, 2)] * 2 + [(0, 1)] * 2 + [(0,)] * 2, asked + [
                    (0, 1, 2), (0, 1, 2), (0, 1), (0, 1), (0,), (0,)][number + 1:])

    def fails_at(self, number, c, sizes, gifts):
        self.assertEqual(("BadGift", {"number": number}), outcome(lambda: play(c, sizes, RowGiver(gifts))))

    def test_houses_that_are_full_or_not_named(self):
        self.fails_at(2, 2, (3, 2, 1), [1, 1, 1, None, None, None])
        self.fails_at(1, 1, (3, 2, 1), [2, 2, None])
        self.fails_at(2, 2, (3, 2, 1), [0, 1, 2, 0, 0, 0])
        self.fails_at(4, 2, (3, 2, 1), [0, 1, 0, 1, 1, 0])
        self.fails_at(0, 1, (2, 1), [2, 0])
        self.fails_at(1, 1, (2, 1), [0, 0])

    def test_any_gifts(self):
        rng = rng_of(145)
        bad = 0
        for _ in range(400):
            c, sizes = rng.randint(1, 3), some_sizes(rng, 5)
            gifts = [rng.choice([None, *range(sizes[0]), rng.choice([sizes[0], True, "0", -1])])
                     for _ in range(c * sizes[0])]
            wanted = None
            for end, gift in enumerate(gifts):
                named = row_by_hand(c, sizes, gifts[:end])[end]
                right = gift is None or type(gift) is int and gift in named and gifts[:end].count(gift) < c
                if not right:
                    wanted = end
                    break
            found = outcome(lambda: play(c, sizes, RowGiver(gifts)))
            if wanted is None:
                self.assertEqual(("value", (row_by_hand(c, sizes, gifts), tuple(gifts))), found)
            else:
                bad += 1
                self.assertEqual(("BadGift", {"number": wanted}), found)
        self.assertGreater(bad, 100)


if __name__ == "__main__":
    unittest.main()
