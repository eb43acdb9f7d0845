"""S10.1 to S10.3: desks, their acts, what they are asked, and what is taken back and done again."""

import functools
import math
import unittest
from fractions import Fraction

from helper import Case, ODD, by_share, deep, outcome, part_values, put, requests, rng_of, told_by_hand, yards
from shareforsure.covers import cover, cover_price
from shareforsure.desk import Desk
from shareforsure.errors import BadAsk, BadTree, UnknownName
from shareforsure.games import best_share
from shareforsure.gifts import given_of
from shareforsure.leastshares import least_share
from shareforsure.most import best_gifts, most_given
from shareforsure.sheets import check_row, check_sheet, check_yard
from shareforsure.tables import greedy_table, table_gifts, told_table

YARD = (1, (3, 1, 1))
ROW = ((0, 1), (0, 2), (0,))
Z, Z_TABLE = (1, (1, 1)), greedy_table((1, (1, 1)))
NO_NAMES = ODD + ["A", "b c", deep("a"), ["a"], ("a",), {"a": "a"}, 7]
NAMES = ["a", "b", "row", "x1", "none"]
SORTS = {"most": ["row"], "told": ["row"], "quotient": ["row"], "run": ["row"], "given": ["row", "gifts"],
         "ran": ["giver", "row"], "show": ["row", "gifts", "cover"], "least": ["giver"], "best": []}
best_again, least_again = functools.cache(best_share), functools.cache(least_share)


def is_right(check, *args):
    try:
        return check(*args) is None
    except BadTree:
        return False


def word_by_hand(sheet, act):
    """The word of S10.1."""
    yard, parts = sheet
    members = {"yard": 2, "put": 2, "drop": 2, "add": 3}
    if type(act) is not tuple or not act or type(act[0]) is not str or members.get(act[0]) != len(act):
        return "form"
    named = [part for part in parts if type(act[1]) is str and part[1] == act[1]]
    if act[0] == "yard":
        if not is_right(check_yard, act[1]):
            return "yard"
        return None if is_right(check_sheet, (act[1], parts)) else "fit"
    if act[0] == "put":
        if not is_right(check_sheet, (yard, (act[1],))):
            return "part"
        return "many" if len(parts) >= 30 and act[1][1] not in [part[1] for part in parts] else None
    if not named:
        return "name"
    if act[0] == "add":
        if named[0][0] != "row":
            return "sort"
        return None if is_right(check_row, yard, (act[2],)) else "request"
    return None


def sheet_by_hand(acts):
    """The sheet behind acts that can be done."""
    yard, parts = (1, (1,)), []
    for act in acts:
        names = [part[1] for part in parts]
        if act[0] == "yard":
            yard = act[1]
        elif act[0] == "put" and act[1][1] in names:
            parts[names.index(act[1][1])] = act[1]
        elif act[0] == "put":
            parts.append(act[1])
        elif act[0] == "drop":
            del parts[names.index(act[1])]
        else:
            word, name, row = parts[names.index(act[1])]
            parts[names.index(act[1])] = (word, name, row + (act[2],))
    return yard, tuple(parts)


def answer_by_hand(sheet, ask, *names):
    """What S10.2 tells, by what the other files tell."""
    yard, parts = sheet
    values = []
    for name, sort in zip(names, SORTS[ask]):
        named = [part for part in parts if type(name) is str and part[1] == name]
        if not named:
            raise BadAsk("name")
        if named[0][0] != sort:
            raise BadAsk("sort")
        values.append(named[0][2])
    if ask == "best":
        return best_again(yard)
    if ask == "least":
        return least_again(yard, *values)
    if ask == "ran":
        return given_of(yard, table_gifts(yard, *values))
    row = values[0]
    if ask in ("most", "told", "quotient", "run"):
        gifts, most = told_by_hand(yard, row), most_given(yard, row)
        told = given_of(yard, gifts)
        shown = Fraction(told, most or 1)
        quotient = (shown.numerator, shown.denominator) if most else None
        return {"most": most, "told": told, "quotient": quotient, "run": gifts}[ask]
    gifts = values[1]
    right = len(gifts) == len(row) and all(
        gift is None or gift in request and gifts[:at].count(gift) < yard[0]
        for at, (gift, request) in enumerate(zip(gifts, row)))
    if ask == "given":
        if not right:
            raise BadAsk("gifts")
        return given_of(yard, gifts)
    houses, numbers = values[2]
    if not right:
        return ("gifts",)
    if len(houses) != len(yard[1]) or len(numbers) != len(row) or [
            house for request, number in zip(row, numbers) for house in request
            if number + houses[house] < yard[1][house]]:
        return ("cover",)
    given, price = given_of(yard, gifts), yard[0] * sum(houses) + sum(numbers)
    return None if given == price else ("sum", given, price)


def some_parts(rng, yard):
    """A part of a yard, often such that others fit to it."""
    word = rng.choice(["row", "row", "gifts", "cover", "giver"])
    if word == "giver" and rng.random() < 0.5 and (yard[0] + 1) ** len(yard[1]) <= 27:
        return word, rng.choice(NAMES), rng.choice([told_table, greedy_table])(yard)
    return word, rng.choice(NAMES), part_values(rng, yard, word)


def fitting(rng, sheet):
    """Gifts or a cover for a row of the sheet, as a part."""
    yard, parts = sheet
    rows = [part[2] for part in parts if part[0] == "row"]
    if not rows:
        return some_parts(rng, yard)
    row = rng.choice(rows)
    return rng.choice([("gifts", rng.choice(NAMES), best_gifts(yard, row)),
                       ("cover", rng.choice(NAMES), cover(yard, row)),
                       ("gifts", rng.choice(NAMES), told_by_hand(yard, row))])


def some_acts(rng, sheet):
    """An act that can perhaps be done."""
    yard, parts = sheet
    draw = rng.random()
    if draw < 0.15:
        return "yard", rng.choice([yards(rng, 4, 2, 3), (yard[0], yard[1] + (2,)), (0, (1,)), (1, ())])
    if draw < 0.6:
        part = some_parts(rng, yard) if rng.random() < 0.5 else fitting(rng, sheet)
        return "put", put(part, rng.randrange(3), rng.choice(ODD)) if rng.random() < 0.1 else part
    if draw < 0.7:
        return "drop", rng.choice(NAMES + [rng.choice(NO_NAMES)])
    if draw < 0.95:
        return "add", rng.choice(NAMES), rng.choice([requests(rng, yard, 4), requests(rng, yard, 4), rng.choice(ODD)])
    return rng.choice([rng.choice(ODD), ("drop",), ("drop", "a", "b"), ["drop", "a"], ("undo",), ("add", "a")])


def some_asks(rng, sheet):
    """A question with names, mostly of parts of the sorts that are asked for."""
    ask = rng.choice(sorted(SORTS) + ["given", "show", "show"])
    names = []
    for sort in SORTS[ask]:
        named = [part[1] for part in sheet[1] if part[0] == sort]
        draw = rng.random()
        names.append(rng.choice(named if named and draw < 0.9 else NAMES if draw < 0.98 else NO_NAMES))
    return (ask, *names)


def asked(desk, ask, *names):
    return outcome(getattr(desk, ask), *names)


def all_asks():
    for name in NAMES:
        for ask in ("most", "told", "quotient", "run", "least"):
            yield ask, name
        for other in NAMES:
            yield "given", name, other
            yield "ran", name, other
    yield "show", "a", "b", "row"
    yield ("best",)


def desk_behind(acts):
    desk = Desk()
    for act in acts:
        desk.do(act)
    return desk


def on(desk, call, *args):
    """A call of a twin, so that the desk itself stays as it is."""
    return getattr(desk.twin(), call)(*args)


class Acts(Case):
    def cannot(self, word, desk, act):
        sheet = desk.sheet()
        self.assertEqual(word, word_by_hand(sheet, act))
        for _ in range(2):
            self.assertEqual(word, desk.act_word(act))
            self.assertEqual(("BadAct", {"word": word}), outcome(desk.do, act))
        self.assertEqual((sheet, ), (desk.sheet(),))

    def test_a_new_desk(self):
        desk = Desk()
        self.assertEqual(((1, (1,)), ()), desk.sheet())
        self.assertEqual(([], (0, 0), []), (desk.acts(), desk.work(), desk.marks()))
        self.assertEqual([("NothingDone", {})] * 2, [outcome(desk.undo), outcome(desk.redo)])

    def test_acts_one_by_one(self):
        desk = Desk()
        acts = [("yard", YARD), ("put", ("row", "a", ROW)), ("put", ("gifts", "b", (2, None))),
                ("put", ("row", "x1", ())), ("add", "x1", (0, 2)), ("add", "x1", ()), ("drop", "b"),
                ("put", ("cover", "a", ((), (1,)))), ("yard", (2, (1, 1, 1))), ("put", ("giver", "b", ()))]
        for number, act in enumerate(acts, 1):
            self.assertIsNone(desk.act_word(act))
            self.assertEqual(number, desk.do(act))
            self.assertEqual(sheet_by_hand(acts[:number]), desk.sheet())
            self.assertEqual(acts[:number], desk.acts())
            check_sheet(desk.sheet())
        parts = (("cover", "a", ((), (1,))), ("row", "x1", ((0, 2), ())), ("giver", "b", ()))
        self.assertEqual(((2, (1, 1, 1)), parts), desk.sheet())

    def test_form(self):
        desk = desk_behind([("put", ("row", "a", ()))])
        for odd in ODD + [deep("yard"), ["drop", "a"], "drop", ("drop",), ("drop", "a", "a"), ("yard",), ("put",),
                          ("add", "a"), ("add", "a", (), ()), ("undo",), ("most", "a"), ("Drop", "a"), (["drop"], "a"),
                          (("drop",), "a"), (True, "a"), ({}, "a"), (None, "a"), {"drop": "a"}, desk, (desk, "a")]:
            self.cannot("form", desk, odd)

    def test_yards(self):
        desk = desk_behind([("yard", (2, (1, 1))), ("put", ("row", "a", ((0, 1),))), ("put", ("gifts", "b", (1,)))])
        for odd in ODD + [deep(1), (0, (1, 1)), (1, ()), (1, (0,)), (1, [1, 1]), [1, (1, 1)], (1, (1, True)),
                          (1, (1,), 1)]:
            self.cannot("yard", desk, ("yard", odd))
        self.cannot("fit", desk, ("yard", (1, (1,))))
        self.assertEqual(4, desk.do(("yard", (1, (5, 5, 5)))))
        desk = desk_behind([("yard", (2, (1,))), ("put", ("giver", "a", ((((1,), (0,)), 0),)))])
        self.cannot("fit", desk, ("yard", (1, (1,))))
        self.cannot("fit", desk, ("yard", (2, (1, 1))))
        self.assertIsNone(desk.act_word(("yard", (3, (7,)))))
        desk.do(("drop", "a"))
        self.assertIsNone(desk.act_word(("yard", (1, (1,)))))

    def test_parts(self):
        desk = desk_behind([("yard", Z), ("put", ("row", "a", ()))])
        for odd in ODD + [deep(1), ("row", "a"), ("row", "a", (), ()), ["row", "a", ()], ("rows", "a", ()),
                          ("row", "A", ()), ("row", "a", ((2,),)), ("row", "a", ((1, 0),)), ("row", "a", ([0],)),
                          ("gifts", "a", (2,)), ("gifts", "a", (True,)), ("cover", "a", ()),
                          ("cover", "a", ((), (-1,))),
                          ("giver", "a", ((((0, 0), (0,)), 1),)), ("giver", "a", ((((0, 2), (0,)), 0),)),
                          (["row"], "a", ()), ("row", ["a"], ()), ("yard", "a", Z)]:
            self.cannot("part", desk, ("put", odd))
        for part in (("row", "a", ((0, 1),)), ("gifts", "b", (0, 0, 0, 1, None)), ("cover", "a", ((), (10 ** 39,))),
                     ("giver", "a", Z_TABLE)):
            self.assertIsNone(desk.act_word(("put", part)))

    def test_a_part_stands_in_the_place_of_the_one_with_its_name(self):
        acts = [("put", (word, name, ((), ()) if word == "cover" else ()))
                for name, word in zip("abc", ("row", "gifts", "cover"))]
        desk = desk_behind(acts)
        for word in ("giver", "cover", "gifts", "row"):
            part = (word, "b", ((), ()) if word == "cover" else ())
            desk.do(("put", part))
            self.assertEqual([acts[0][1], part, acts[2][1]], list(desk.sheet()[1]))
        desk.do(("drop", "b"))
        desk.do(("put", part))
        self.assertEqual([acts[0][1], acts[2][1], part], list(desk.sheet()[1]))

    def test_many(self):
        desk = desk_behind([("put", ("row", f"p{number}", ())) for number in range(29)])
        self.assertIsNone(desk.act_word(("put", ("row", "more", ()))))
        self.assertEqual(30, desk.do(("put", ("row", "more", ()))))
        self.cannot("many", desk, ("put", ("row", "evenmore", ())))
        self.cannot("part", desk, ("put", ("row", "evenmore", ((1,),))))
        self.assertEqual(31, desk.do(("put", ("gifts", "p7", (None,)))))
        desk.do(("drop", "p3"))
        self.assertEqual(33, desk.do(("put", ("row", "evenmore", ()))))
        self.assertEqual(30, len(desk.sheet()[1]))

    def test_drop_and_add(self):
        desk = desk_behind([("yard", Z), ("put", ("row", "a", ((0,),))), ("put", ("gifts", "b", ()))])
        for odd in NO_NAMES + [desk]:
            if odd != "a":
                self.cannot("name", desk, ("drop", odd))
                self.cannot("name", desk, ("add", odd, (0,)))
                self.cannot("name", desk, ("add", odd, 7))
        self.cannot("sort", desk, ("add", "b", (0,)))
        self.cannot("sort", desk, ("add", "b", (7,)))
        for odd in ODD + [(2,), (0, 2), (1, 0), (0, True), [0], deep(0)]:
            if odd != () and repr(odd) != "(1,)":
                self.cannot("request", desk, ("add", "a", odd))
        for request in ((), (0,), (1,), (0, 1)):
            desk.do(("add", "a", request))
        self.assertEqual(((0,), (), (0,), (1,), (0, 1)), desk.sheet()[1][0][2])

    def test_drawn_acts(self):
        words = {}
        for seed in range(40):
            rng = rng_of(1000 + seed)
            desk, acts = Desk(), []
            for _ in range(40):
                act = some_acts(rng, desk.sheet())
                word = word_by_hand(sheet_by_hand(acts), act)
                words[word] = True
                self.assertEqual(word, desk.act_word(act))
                if word is None:
                    acts.append(act)
                    self.assertEqual(("value", len(acts)), outcome(desk.do, act))
                else:
                    self.assertEqual(("BadAct", {"word": word}), outcome(desk.do, act))
                self.assertEqual((sheet_by_hand(acts), acts), (desk.sheet(), desk.acts()))
        self.assertEqual({None, "form", "yard", "fit", "part", "name", "sort", "request"}, set(words))


class Asks(Case):
    def setUp(self):
        self.desk = desk_behind([
            ("yard", YARD), ("put", ("row", "r", ROW)), ("put", ("gifts", "g", (0, 2, None))),
            ("put", ("gifts", "h", (1, 2, 0))), ("put", ("cover", "v", ((2, 0, 0), (1, 1, 1)))),
            ("put", ("cover", "w", ((9, 9, 9), (1, 1, 1)))), ("put", ("giver", "t", told_table(YARD))),
            ("put", ("row", "e", ()))])

    def test_answers(self):
        for call, names, wanted in (
                ("most", "r", 5), ("told", "r", 4), ("quotient", "r", (4, 5)), ("run", "r", (0, 2, None)),
                ("most", "e", 0), ("told", "e", 0), ("quotient", "e", None), ("run", "e", ()),
                ("given", "rg", 4), ("given", "rh", 5), ("ran", "tr", 4), ("ran", "te", 0), ("show", "rhv", None),
                ("show", "rgv", ("sum", 4, 5)), ("show", "rhw", ("sum", 5, 30)), ("show", "egv", ("gifts",)),
                ("best", "", best_share(YARD)), ("least", "t", least_share(YARD, told_table(YARD)))):
            self.tells(wanted, on, self.desk, call, *names)
            self.assertEqual(repr(wanted), repr(asked(self.desk, call, *names)[1]))

    def test_words_by_the_sequence_of_the_parts(self):
        for call, sorts in (("most", ["r"]), ("told", ["r"]), ("quotient", ["r"]), ("run", ["r"]),
                            ("given", ["r", "g"]), ("ran", ["t", "r"]), ("show", ["r", "g", "v"]), ("least", ["t"])):
            for at in range(len(sorts)):
                behind = [["A", "r", "g"][:len(sorts) - at - 1], sorts[at + 1:]]
                for odd in NO_NAMES:
                    for rest in behind:
                        self.fails("BadAsk", {"word": "name"}, on, self.desk, call, *sorts[:at], odd, *rest)
                for odd in {"r", "g", "v", "t"} - {sorts[at]}:
                    for rest in behind:
                        self.fails("BadAsk", {"word": "sort"}, on, self.desk, call, *sorts[:at], odd, *rest)
        self.assertEqual((0, 0), self.desk.work())

    def test_gifts_behind_the_other_words(self):
        desk = self.desk
        desk.do(("put", ("gifts", "x", (0, 0, None))))
        desk.do(("put", ("gifts", "y", (2, None, None))))
        desk.do(("put", ("gifts", "z", (None, None))))
        for name in "xyz":
            self.fails("BadAsk", {"word": "gifts"}, on, desk, "given", "r", name)
            self.tells(("gifts",), on, desk, "show", "r", name, "v")
            self.fails("BadAsk", {"word": "name"}, on, desk, "show", "r", name, "A")
            self.fails("BadAsk", {"word": "sort"}, on, desk, "show", "r", name, "g")
            self.fails("BadAsk", {"word": "name"}, on, desk, "given", "A", name)
        desk.do(("put", ("cover", "u", ((2, 0, 0), (1, 1, 0)))))
        desk.do(("put", ("cover", "s", ((2, 0), (1, 1, 1)))))
        for name in "us":
            self.tells(("cover",), on, desk, "show", "r", "h", name)
            self.tells(("gifts",), on, desk, "show", "r", "x", name)
        self.tells(("cover",), on, desk, "show", "r", "g", "u")

    def test_words_ahead_of_what_is_too_great(self):
        desk = self.desk
        desk.do(("drop", "t"))
        desk.do(("put", ("giver", "t", ())))
        desk.do(("yard", (5, (1, 1, 1))))
        self.fails("BadAsk", {"word": "name"}, on, desk, "least", "A")
        self.fails("BadAsk", {"word": "sort"}, on, desk, "least", "r")
        self.fails("TooGreat", {}, on, desk, "least", "t")
        self.fails("TooGreat", {}, on, desk, "best")
        self.tells(0, on, desk, "ran", "t", "r")
        self.assertEqual((0, 0), desk.work())

    def test_drawn_questions(self):
        found = {}
        for seed in range(60):
            rng = rng_of(1100 + seed)
            desk = Desk()
            desk.do(("yard", yards(rng, 3, 2, 4)))
            for _ in range(60):
                outcome(desk.do, some_acts(rng, desk.sheet()))
                for _ in range(2):
                    ask = some_asks(rng, desk.sheet())
                    wanted = outcome(answer_by_hand, desk.sheet(), *ask)
                    found[ask[0], wanted[0], str(wanted[1])[:6] if ask[0] in ("show", "given") else ""] = True
                    self.assertEqual(repr(wanted), repr(asked(desk, *ask)))
                    if ask[0] in ("least", "best", "quotient", "run") and wanted[0] == "value" and wanted[1]:
                        self.assertIs(tuple, type(asked(desk, *ask)[1]))
        for told in ("None", "('gift", "('cove", "('sum'"):
            self.assertIn(("show", "value", told), found)
        self.assertIn(("given", "value", "0"), found)
        self.assertIn(("least", "TooGreat", ""), found)
        self.assertIn(("ran", "value", ""), found)

    def test_what_holds(self):
        for seed in range(40):
            rng = rng_of(1200 + seed)
            yard = yards(rng, 3, 2, 4)
            if (yard[0] + 1) ** len(yard[1]) > 27:
                continue
            sure, whole = by_share(yard[0])
            desk = desk_behind([("yard", yard), ("put", ("row", "a", part_values(rng, yard, "row"))),
                                ("put", ("giver", "t", part_values(rng, yard, "giver"))),
                                ("put", ("giver", "u", told_table(yard)))])
            desk.do(("put", ("gifts", "g", best_gifts(yard, desk.sheet()[1][0][2]))))
            desk.do(("put", ("cover", "c", cover(yard, desk.sheet()[1][0][2]))))
            self.assertGreaterEqual(whole * desk.told("a"), sure * desk.most("a"))
            for name in "tu":
                self.assertLessEqual(Fraction(*desk.least(name)), Fraction(*desk.best()))
            self.assertIsNone(desk.show("a", "g", "c"))
            self.assertEqual(desk.most("a"), desk.given("a", "g"))
            self.assertEqual(desk.most("a"), cover_price(yard, desk.sheet()[1][4][2]))
            self.assertEqual(desk.told("a"), desk.ran("u", "a"))
            quotient = desk.quotient("a")
            if quotient is not None:
                self.assertEqual((1, Fraction(desk.told("a"), desk.most("a"))),
                                 (math.gcd(*quotient), Fraction(*quotient)))


class Histories(Case):
    def test_undo_and_redo(self):
        desk = Desk()
        acts = [("yard", Z), ("put", ("row", "a", ())), ("add", "a", (0,)), ("drop", "a")]
        sheets = [desk.sheet()]
        for act in acts:
            desk.do(act)
            sheets.append(desk.sheet())
        for many in (3, 2, 1, 0):
            self.assertEqual(many, desk.undo())
            self.assertEqual((sheets[many], acts[:many]), (desk.sheet(), desk.acts()))
        self.assertEqual(("NothingDone", {}), outcome(desk.undo))
        for many in (1, 2, 3, 4):
            self.assertEqual(many, desk.redo())
            self.assertEqual((sheets[many], acts[:many]), (desk.sheet(), desk.acts()))
        self.assertEqual(("NothingDone", {}), outcome(desk.redo))
        self.assertEqual((sheets[4], acts), (desk.sheet(), desk.acts()))

    def test_redo_is_gone_behind_an_act_done_by_other_means(self):
        acts = [("yard", Z), ("put", ("row", "a", ((0,),)))]
        desk = desk_behind(acts)
        desk.undo()
        # Not even an equal act leaves it.
        self.assertEqual(2, desk.do(acts[1]))
        self.assertEqual(("NothingDone", {}), outcome(desk.redo))
        desk.undo()
        desk.undo()
        for call, args in (("do", (("drop", "a"),)), ("do", (7,)), ("mark", ("m",)), ("since", ("m",)),
                           ("since", ("n",)),
                           ("most", ("a",)), ("best", ()), ("act_word", (acts[0],)), ("marks", ()), ("acts", ()),
                           ("work", ()), ("sheet", ()), ("twin", ()), ("undo", ()), ("least", ("a",))):
            outcome(getattr(desk, call), *args)
        self.assertEqual([1, 2], [desk.redo(), desk.redo()])
        self.assertEqual(acts, desk.acts())
        desk.undo()
        desk.undo()
        desk.redo()
        desk.do(("yard", (3, (1,))))
        self.assertEqual(("NothingDone", {}), outcome(desk.redo))
        self.assertEqual([acts[0], ("yard", (3, (1,)))], desk.acts())

    def test_marks(self):
        desk = Desk()
        self.assertEqual(("UnknownName", {"name": "m"}), outcome(desk.since, "m"))
        self.assertIsNone(desk.mark("m"))
        self.assertEqual((0, ["m"]), (desk.since("m"), desk.marks()))
        for worth in (1, 2, 3):
            desk.do(("yard", (1, (worth,))))
        desk.mark("b2")
        desk.mark("a")
        self.assertEqual((3, 0, ["a", "b2", "m"]), (desk.since("m"), desk.since("a"), desk.marks()))
        desk.undo()
        desk.undo()
        self.assertEqual((1, -2, -2), (desk.since("m"), desk.since("a"), desk.since("b2")))
        desk.mark("a")
        desk.redo()
        self.assertEqual((2, 1, -1), (desk.since("m"), desk.since("a"), desk.since("b2")))
        desk.undo()
        desk.undo()
        self.assertEqual((0, -1, -3), (desk.since("m"), desk.since("a"), desk.since("b2")))
        for odd in NO_NAMES:
            if odd not in ("a", "m", "b2"):
                self.assertEqual(repr(("UnknownName", {"name": odd})), repr(outcome(desk.since, odd)))
        told = desk.marks()
        told.append("z")
        self.assertEqual(["a", "b2", "m"], desk.marks())

    def test_work_counts_unlike_ones_once(self):
        desk = desk_behind([("yard", Z), ("put", ("giver", "a", Z_TABLE)), ("put", ("giver", "b", Z_TABLE)),
                            ("put", ("giver", "c", ())), ("put", ("row", "r", ()))])
        for ask, names, work in (("least", "a", (1, 0)), ("least", "a", (1, 0)), ("least", "b", (1, 0)),
                                 ("least", "c", (2, 0)), ("least", "r", (2, 0)), ("least", "x", (2, 0)),
                                 ("best", "", (2, 1)), ("best", "", (2, 1)), ("most", "r", (2, 1)),
                                 ("ran", "ar", (2, 1))):
            asked(desk, ask, *names)
            self.assertEqual(work, desk.work())
        desk.do(("yard", (1, (1, 2))))
        desk.least("a")
        desk.best()
        self.assertEqual((3, 2), desk.work())
        desk.undo()
        desk.best()
        desk.least("b")
        self.assertEqual((3, 2), desk.work())
        desk.do(("yard", (30, (1, 2))))
        self.assertEqual([("TooGreat", {})] * 2, [outcome(desk.best), outcome(desk.least, "a")])
        self.assertEqual((3, 2), desk.work())

    def test_twins(self):
        desk = desk_behind([("yard", Z), ("put", ("giver", "a", Z_TABLE)), ("put", ("row", "b", ((0, 1),)))])
        desk.undo()
        desk.mark("m")
        desk.best()
        desk.least("a")
        twin = desk.twin()
        self.assertIs(Desk, type(twin))
        for one in (desk, twin):
            self.assertEqual(((Z, (("giver", "a", Z_TABLE),)), ["m"], (1, 1), 0),
                             (one.sheet(), one.marks(), one.work(), one.since("m")))
        self.assertEqual(3, twin.redo())
        twin.best()
        self.assertEqual((1, 1), twin.work())
        twin.mark("n")
        twin.do(("yard", (1, (1, 2))))
        twin.best()
        twin.least("a")
        self.assertEqual(((2, 2), ["m", "n"], 2), (twin.work(), twin.marks(), twin.since("m")))
        self.assertEqual(((1, 1), ["m"], 0, 2), (desk.work(), desk.marks(), desk.since("m"), len(desk.acts())))
        self.assertEqual(3, desk.redo())
        self.assertEqual(("NothingDone", {}), outcome(desk.redo))
        desk.undo()
        desk.mark("o")
        self.assertEqual((["m", "n"], 4), (twin.marks(), len(twin.acts())))
        # A twin of a twin, and one of a desk that knows nothing.
        self.assertEqual((2, 2), twin.twin().work())
        self.assertEqual(("NothingDone", {}), outcome(Desk().twin().undo))

    def test_a_desk_answers_as_a_new_one_with_the_acts_that_are_done(self):
        for seed in range(25):
            rng = rng_of(1300 + seed)
            desk, done, gone, marks = Desk(), [], [], {}
            desks = []
            for _ in range(70):
                draw = rng.random()
                if draw < 0.5:
                    act = some_acts(rng, desk.sheet())
                    if outcome(desk.do, act)[0] == "value":
                        done, gone = done + [act], []
                elif draw < 0.65:
                    wanted = ("value", len(done) - 1) if done else ("NothingDone", {})
                    self.assertEqual(wanted, outcome(desk.undo))
                    if done:
                        done, gone = done[:-1], gone + done[-1:]
                elif draw < 0.8:
                    wanted = ("value", len(done) + 1) if gone else ("NothingDone", {})
                    self.assertEqual(wanted, outcome(desk.redo))
                    if gone:
                        done, gone = done + gone[-1:], gone[:-1]
                elif draw < 0.85:
                    name = rng.choice(NAMES)
                    desk.mark(name)
                    marks = {**marks, name: len(done)}
                elif draw < 0.95:
                    asked(desk, *some_asks(rng, desk.sheet()))
                else:
                    desks.append((desk, done, gone, marks))
                    desk = desk.twin()
                self.assertEqual((sheet_by_hand(done), done), (desk.sheet(), desk.acts()))
                self.assertEqual({name: len(done) - many for name, many in marks.items()},
                                 {name: desk.since(name) for name in desk.marks()})
            for one, acts, _, kept in desks + [(desk, done, gone, marks)]:
                self.assertEqual((acts, sorted(kept)), (one.acts(), one.marks()))
                new = desk_behind(acts)
                self.assertEqual(new.sheet(), one.sheet())
                for ask in all_asks():
                    self.assertEqual(repr(asked(new, *ask)), repr(asked(one, *ask)))

    def test_acts_are_told_as_they_were_passed(self):
        act = ("put", ("row", "a", ((0,), ())))
        desk = desk_behind([act])
        told = desk.acts()
        self.assertEqual(repr([act]), repr(told))
        told.append(act)
        self.assertEqual([act], desk.acts())
        self.assertIs(tuple, type(desk.acts()[0]))


class Limits(Case):
    def test_long_rows_by_adding(self):
        desk = desk_behind([("yard", (3, (1,) * 1000)), ("put", ("row", "a", ()))])
        for number in range(3000):
            desk.do(("add", "a", (number % 1000,)))
        self.assertEqual(tuple((number % 1000,) for number in range(3000)), desk.sheet()[1][0][2])
        for _ in range(1500):
            desk.undo()
        self.assertEqual(1502, len(desk.acts()))
        self.assertEqual(1500, len(desk.sheet()[1][0][2]))

    def test_rows_of_the_sizes_that_are_asked_about(self):
        rng = rng_of(1400)
        yard = (30, tuple(rng.randint(1, 10 ** 7) for _ in range(80)))
        row = tuple(requests(rng, yard, 30) for _ in range(300))
        desk = desk_behind([("yard", yard), ("put", ("row", "a", row)), ("put", ("gifts", "g", best_gifts(yard, row))),
                            ("put", ("cover", "c", cover(yard, row)))])
        self.assertEqual((most_given(yard, row), told_by_hand(yard, row)), (desk.most("a"), desk.run("a")))
        self.assertIsNone(desk.show("a", "g", "c"))


class NamesOfErrors(Case):
    def test_errors_have_their_classes(self):
        for call in (lambda: Desk().most("a"), lambda: Desk().given("a", "b")):
            with self.assertRaises(BadAsk):
                call()
        with self.assertRaises(UnknownName):
            Desk().since([])


if __name__ == "__main__":
    unittest.main()
