"""0.1 to 0.4 over the whole program: both halves of the sentence, and that nothing passed is changed or kept."""

import copy
import unittest

from helper import Case, Scripted, by_share, lists_in, outcome, rng_of, rows, some_gifts, yards
from shareforsure import (asks, books, chains, charges, console, covers, desk, eager, gamepapers, games, gifts, givers,
                          households, kinds, leastshares, lexemes, matches, most, office, players, plays, ranks,
                          reached, rises, shares, sheets, sheettexts, standings, tables, ways, words)
from test_asks import some_days
from test_tables import SMALL

YARD, ROW = (2, (3, 1, 1)), ((0, 1), (0, 2), (0,), (0, 1, 2), ())
GIFTS, BEST = (0, 2, 0, None, None), (1, 2, 0, 0, None)
NAMES = ["a", "b", "c"]
DAY = (("come", "a"), ("ask", "r", ("a", "b")), ("fall", "b"), ("come", "c"), ("ask", "s", ("c", "a", "c")))
SHEET = (YARD, (("row", "r", ROW), ("gifts", "g", GIFTS), ("cover", "v", ((3, 1, 1), (0,) * 5)),
                ("giver", "t", tables.told_table(YARD))))
TABLE = tables.told_table(YARD)
FIRST = standings.first_standing(YARD)
P, Q = games.best_share(YARD)


def calls():
    """Each function of the interface with arguments, also such that it raises an error."""
    value = [{"a": [1, (2, [3])]}, ((), []), True]
    for check in (words.is_name, words.is_number, sheets.check_yard, sheets.check_sheet):
        yield from ((check, each) for each in (value, "a", 0, YARD, SHEET))
    yield from ((sheets.check_row, YARD, value), (sheets.check_row, YARD, ROW), (sheets.check_table, YARD, TABLE),
                (sheets.check_table, YARD, value), (sheets.part_named, SHEET, "r"), (sheets.part_named, SHEET, value),
                (sheets.names_of, SHEET, "row"), (lexemes.lexemes, "a 1 ;"), (lexemes.lexemes, "a -"),
                (sheettexts.sheet_text, SHEET), (sheettexts.row_text, ROW), (sheettexts.gifts_text, GIFTS),
                (sheettexts.read_row, "[0 to 2] x 2"), (sheettexts.read_gifts, "none x 2, 1"),
                (sheettexts.read_sheet, sheettexts.sheet_text(SHEET)), (sheettexts.read_sheet, "sheet { }"),
                (sheettexts.read_row, "[0] x 100000"))
    yield from ((gifts.gifts_fault, YARD, ROW, GIFTS), (gifts.gifts_fault, YARD, ROW, value),
                (gifts.loads_of, YARD, GIFTS), (gifts.given_of, YARD, GIFTS), (gifts.left_of, GIFTS),
                (gifts.full_of, YARD, GIFTS), (kinds.kinds_of, ROW), (kinds.row_of, kinds.kinds_of(ROW)),
                (kinds.carried, ROW, GIFTS, ROW[::-1]), (kinds.carried, ROW, GIFTS, ROW[1:]),
                (ways.ways_between, GIFTS, BEST), (ways.done, GIFTS, BEST, ways.ways_between(GIFTS, BEST)),
                (ways.judge_ways, GIFTS, BEST, value), (ways.judge_ways, GIFTS, BEST, ways.ways_between(GIFTS, BEST)),
                (ways.steps_along, GIFTS, BEST, ways.ways_between(GIFTS, BEST)))
    yield from ((most.best_gifts, YARD, ROW), (most.most_given, YARD, ROW), (most.most_so_far, YARD, ROW),
                (covers.cover, YARD, ROW), (covers.cover_price, YARD, ((1, 2, 3), (4,))),
                (covers.judge_cover, YARD, ROW, value), (covers.judge_cover, YARD, ROW, covers.cover(YARD, ROW)),
                (chains.chain_for, YARD, ROW, GIFTS), (chains.chain_for, YARD, ROW, BEST),
                (chains.gain, YARD, GIFTS, ((3, 0),)), (chains.chain_done, GIFTS, ((3, 1),)),
                (chains.judge_chain, YARD, ROW, GIFTS, ((3, 1),)), (chains.judge_chain, YARD, ROW, GIFTS, value),
                (reached.gifts_with, YARD, ROW, (1, 1, 1)), (reached.gifts_with, YARD, ROW, (2, 2, 2)),
                (reached.bar_for, YARD, ROW, (2, 2, 2)), (reached.bar_for, YARD, ROW, (0, 0, 0)), (ranks.no_ranks, 3),
                (ranks.ranks_after, 2, 3, (0,) * 8, (0, 2)), (ranks.ranks_of, 2, 3, ROW),
                (ranks.most_by, YARD, ranks.ranks_of(2, 3, ROW)))
    yield from ((rises.rise, 3, 2), (rises.share, 4), (rises.pull, YARD, 0, 1), (shares.told_gifts, YARD, ROW),
                (shares.pull_paper, YARD, ROW), (shares.told_account, YARD, ROW), (shares.share_room, YARD, ROW),
                (players.player_sizes, 3), (players.levels, 2, (9, 6, 4)), (players.bound_of, 2, (9, 6, 4)),
                (players.best_sizes, 2, 9), (plays.judge_play, 2, (3, 2), value), (plays.judge_play, 2, (2,), ((), ())))
    yield from ((tables.requests_of, YARD), (tables.told_table, YARD), (tables.greedy_table, YARD),
                (tables.table_gifts, YARD, TABLE, ROW), (tables.table_gifts, YARD, TABLE, list(ROW)),
                (standings.first_standing, YARD), (standings.standing_behind, YARD, TABLE, FIRST, (0, 1)),
                (standings.given_of, YARD, FIRST), (standings.most_of, YARD, FIRST), (standings.standings, YARD, TABLE),
                (leastshares.least_share, YARD, TABLE), (leastshares.kept_paper, YARD, TABLE, 1, 2),
                (leastshares.met_row, YARD, TABLE, 2, 3), (leastshares.late_paper, YARD, TABLE, 1, 2, 3),
                (leastshares.judge_kept, YARD, TABLE, 1, 2, value),
                (leastshares.judge_late, YARD, TABLE, 1, 2, 3, value),
                (leastshares.least_share, (9, (1, 1)), ()))
    yield from ((games.raises, YARD, FIRST, (0,)), (games.lets, YARD, FIRST, (0, 2)), (games.led, YARD, FIRST, (0,), 0),
                (games.value, YARD, FIRST), (games.best_share, YARD), (games.best_share, (9, (1, 1))),
                (gamepapers.giver_paper, YARD, P, Q), (gamepapers.player_paper, YARD, P, Q),
                (gamepapers.judge_giver_paper, YARD, P, Q, value), (gamepapers.judge_player_paper, YARD, P, Q, value),
                (gamepapers.judge_giver_paper, YARD, P, Q, gamepapers.giver_paper(YARD, P, Q)),
                (gamepapers.judge_player_paper, YARD, P, Q, gamepapers.player_paper(YARD, P, Q)),
                (eager.first_gifts, YARD, 2, ROW), (eager.is_eager, YARD, 2, ROW, GIFTS), (eager.bare_row, 2, 3),
                (charges.charge_paper, YARD, 2, ROW, GIFTS, BEST), (charges.charge_paper, YARD, 1, ROW, BEST, GIFTS),
                (charges.judge_charges, YARD, 2, ROW, GIFTS, BEST, value))
    entries = [(0, "r", "a", 3), (1, "s", None, 0)]
    yield from ((asks.check_day, NAMES, DAY), (asks.check_day, NAMES, value), (asks.check_day, tuple(NAMES), DAY[::-1]),
                (books.total, entries), (books.earned, entries))


def told_by(made, steps):
    """What an object that is made anew tells, step by step: (method, arguments ..)."""
    one = made()
    return [outcome(getattr(one, method), *args) for method, *args in steps]


def objects():
    """Ways to make each object anew, and steps for it."""
    give = [("give", request) for request in ROW]
    yield lambda: givers.ToldGiver(YARD), give + [("loads",)]
    yield lambda: givers.RowGiver([[1], {"a": [2]}, None, True, ([3],)]), give
    yield lambda: givers.CallGiver(lambda request: [request]), give
    yield lambda: eager.FirstGiver(YARD, 2), give
    yield lambda: matches.PaperGiver(YARD, gamepapers.giver_paper(YARD, P, Q)), give + [("standing",)]
    yield lambda: matches.PaperPlayer(YARD, gamepapers.player_paper(YARD, P, Q)), [
        ("asks",), ("standing",), ("told", None), ("asks",), ("standing",)]
    yield lambda: households.Household(YARD, ["a", "b", "c"]), [
        ("come", "a"), ("come", "a"), ("names",), ("here",), ("seen", ["a", "b", "a"]), ("seen", ["a", ["b"]]),
        ("take", "a"), ("take", "b"), ("fall", {}), ("loads",), ("yard",), ("names",), ("here",), ("name_of", 1)]
    yield lambda: office.Office(YARD, ["a", "b", "c"], DAY, givers.ToldGiver(YARD)), [
        ("step",), ("step",), ("books",), ("turned_away",), ("here",), ("step",), ("step",), ("step",), ("step",),
        ("books",), ("turned_away",), ("here",), ("row",), ("gifts",), ("loads",), ("events",), ("is_over",)]
    acts = [("yard", YARD), *[("put", part) for part in SHEET[1]], ("drop", ["r"]), ("add", "r", (0,)),
            ("add", "r", [0]), ("put", ["row"]), ["drop", "r"]]
    asked = [("acts",), ("acts",), ("most", "r"), ("most", ["r"]), ("run", "r"), ("quotient", "r"),
             ("show", "r", "g", "v"), ("least", "t"), ("best",), ("work",), ("mark", "m"), ("since", "m"),
             ("since", ["m"]), ("marks",),
             ("marks",), ("undo",), ("given", "r", "g"), ("show", "r", "g", "v"), ("redo",), ("redo",), ("sheet",)]
    yield desk.Desk, [(call, act) for act in acts for call in ("act_word", "do")] + asked
    yield lambda: console.Console(desk.Desk()), [("answer", line) for line in (
        "yard 2 : 1 x 2;", "row r [0 to 1] x 3;", "run r;", "undo;", "undo", "most r;", "redo;", "best;", "parts;")]


class WhatHolds(Case):
    def test_the_told_giver_has_its_share_behind_every_request(self):
        rng = rng_of(1700)
        for _ in range(60):
            yard = yards(rng, 5, 4, rng.choice([1, 3, 50]))
            row = rows(rng, yard, rng.randint(1, 14), 5)
            sure, whole = by_share(yard[0])
            run = givers.run(givers.ToldGiver(yard), row)
            houses, requests = shares.pull_paper(yard, row)
            for end, greatest in enumerate(most.most_so_far(yard, row), 1):
                self.assertGreaterEqual(whole * gifts.given_of(yard, run[:end]), sure * greatest)
            for request, number in zip(row, requests):
                for house in request:
                    self.assertGreaterEqual(number + houses[house], sure * yard[1][house])

    def test_no_giver_has_more_against_the_told_player(self):
        for c in (1, 2, 3):
            sure, whole = by_share(c)
            sizes = players.player_sizes(c)
            yard = (c, (1,) * whole)
            for made in (lambda: givers.ToldGiver(yard), lambda: eager.FirstGiver(yard, 1),
                         lambda: Scripted(c, whole, lambda request, roomy, loads: roomy[-1] if roomy else None),
                         lambda: givers.CallGiver(lambda request: None)):
                row, given = players.play(c, sizes, made())
                self.assertEqual(c * whole, len(row))
                self.assertLessEqual(gifts.given_of(yard, given), c * sure)
                if c < 3:
                    self.assertEqual(c * whole, most.most_given(yard, row))

    def test_no_giver_at_all_has_more_than_the_best_share(self):
        for yard in SMALL:
            p, q = games.best_share(yard)
            paper = gamepapers.player_paper(yard, p, q)
            for giver in (givers.ToldGiver(yard), eager.FirstGiver(yard, 1)):
                row, given = matches.played(yard, paper, giver)
                self.assertLessEqual(q * gifts.given_of(yard, given), p * most.most_given(yard, row))
            sure, whole = by_share(yard[0])
            self.assertGreaterEqual(p * whole, q * sure)

    def test_an_office_by_lines_and_by_days(self):
        rng = rng_of(1701)
        for _ in range(20):
            yard = yards(rng, 4, 3, 5)
            names = ["a", "b", "c", "d"][:len(yard[1])]
            one = office.Office(yard, names, some_days(rng, names, 15), givers.ToldGiver(yard))
            while not one.is_over():
                one.step()
            place = desk.Desk()
            reader = console.Console(place)
            lines = [f"yard {yard[0]} : {sheettexts.gifts_text(yard[1])};", f"row r {sheettexts.row_text(one.row())};",
                     f"gifts g {sheettexts.gifts_text(one.gifts())};"]
            self.assertEqual(["done"] * 3, [reader.answer(line) for line in lines])
            self.assertEqual(str(books.total(one.books())), reader.answer("told r;"))
            self.assertEqual(str(books.total(one.books())), reader.answer("given r g;"))
            self.assertEqual(sheettexts.gifts_text(one.gifts()), reader.answer("run r;"))
            self.assertEqual(place.sheet(), sheettexts.read_sheet(sheettexts.sheet_text(place.sheet())))


class WhatIsPassedAndTold(Case):
    def test_functions(self):
        for call, *args in calls():
            self.same(call, *args)

    def test_objects(self):
        for made, steps in objects():
            kept = repr(steps)
            first, second = told_by(made, steps), told_by(made, copy.deepcopy(steps))
            self.assertEqual(kept, repr(steps))
            self.assertEqual(repr(first), repr(second))
            # An error may keep what it was passed; what is returned is new each time.
            found = [each for kind, value in first + second if kind == "value" for each in lists_in(value)]
            self.assertEqual(len(found), len({id(each) for each in found}))
            passed = {id(each) for each in lists_in([list(step) for step in steps])}
            self.assertFalse([each for each in found if id(each) in passed])

    def test_what_is_told_belongs_to_the_caller(self):
        for made, steps in objects():
            one, other = made(), made()
            for method, *args in steps:
                kind, value = outcome(getattr(one, method), *args)
                self.assertEqual(repr((kind, value)), repr(outcome(getattr(other, method), *args)))
                for found in lists_in(value) if kind == "value" else []:
                    found.clear()

    def test_lists_that_are_passed_may_be_changed_later(self):
        names, gifts_told = ["a", "b", "c"], [0, [1], None]
        house, place = households.Household(YARD, names), office.Office(YARD, names, DAY, givers.ToldGiver(YARD))
        giver = givers.RowGiver(gifts_told)
        names.clear()
        gifts_told[1].append(2)
        gifts_told.clear()
        self.assertEqual(["a", "b", "c"], house.names())
        self.assertEqual((0, [1], None), givers.run(giver, [(), (), ()]))
        self.assertIsNone(place.step())
        self.assertEqual((1, "r", "a", 3), place.step())

    def test_what_a_giver_returned_is_not_kept(self):
        told = []
        one = office.Office(YARD, NAMES, DAY, givers.CallGiver(lambda request: told))
        while not one.is_over():
            one.step()
        self.assertEqual((None, None), one.gifts())

    def test_ranges_of_numbers(self):
        rng = rng_of(1702)
        for _ in range(20):
            yard = (rng.randint(1, 30), tuple(rng.randint(1, 10 ** 7) for _ in range(40)))
            row = rows(rng, yard, 120, 12)
            self.assertGreaterEqual(shares.share_room(yard, row), 0)
            best = most.best_gifts(yard, row)
            for m in (1, 20):
                first = eager.first_gifts(yard, m, row)
                paper = charges.charge_paper(yard, m, row, first, best)
                self.assertIsNone(charges.judge_charges(yard, m, row, first, best, paper))
                some = some_gifts(rng, yard, row)
                paper = charges.charge_paper(yard, m, row, first, some)
                self.assertIsNone(charges.judge_charges(yard, m, row, first, some, paper))


if __name__ == "__main__":
    unittest.main()
