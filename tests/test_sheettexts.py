"""S1.4 to S1.7: what texts tell, their wrong places, when they are too great, and how they are written."""

import unittest

import helper
from helper import Case, GIFTS, REQUESTS, SHEET, outcome, plain_lexemes, rng_of, sheets, spaced, wrong_place
from shareforsure.sheets import check_sheet
from shareforsure.sheettexts import gifts_text, read_gifts, read_row, read_sheet, row_text, sheet_text

EXAMPLE = ((2, (1, 1, 1, 4)), (
    ("row", "a", ((0, 1, 2, 5), (1,), (1,), ())), ("gifts", "g", (0, None, None)),
    ("cover", "v", ((1, 0), (2, 2, 2))), ("giver", "t", ((((0, 1), (0, 1)), 0),))))
WORDS = ["a", "b2", "x", "to", "none", "row", "gifts", "cover", "giver", "room", "houses", "sheet", "abcdefghijkl"]


class Told:
    """Texts that are made up, with what they tell and how many members."""

    def __init__(self, rng, numbers=(0, 1, 2, 3, 12)):
        self.rng = rng
        self.numbers = numbers

    def number(self):
        return self.rng.choice(self.numbers)

    def times(self):
        if self.rng.random() < 0.6:
            return [], 1
        times = self.rng.choice([0, 1, 2, 3])
        return ["x", str(times)], times

    def listed(self, values):
        found, told = [], ()
        for _ in range(self.rng.choice([0, 1, 1, 2, 3])):
            value = values()
            more, times = self.times()
            found += ([","] if found else []) + ["none" if value is None else str(value)] + more
            told += (value,) * times
        return found, told, len(told)

    def runs(self):
        return self.listed(self.number)

    def gifts(self):
        return self.listed(lambda: self.rng.choice([None, self.number()]))

    def request(self):
        found, told = ["["], ()
        for _ in range(self.rng.choice([0, 1, 1, 2, 3])):
            first, last = self.number(), self.number()
            if self.rng.random() < 0.5:
                found += [str(first)]
                told += (first,)
            else:
                found += [str(first), "to", str(last)]
                told += tuple(range(first, last + 1))
        return found + ["]"], told

    def row(self):
        found, row = [], ()
        for _ in range(self.rng.choice([0, 1, 2, 3])):
            request, told = self.request()
            more, times = self.times()
            found += request + more
            row += (told,) * times
        return found, row, sum(1 + len(request) for request in row)

    def table(self):
        found, table, many = [], (), 0
        for _ in range(self.rng.choice([0, 1, 2])):
            loads = tuple(self.number() for _ in range(self.rng.randint(0, 3)))
            request, told = self.request()
            gift = self.rng.choice([None, self.number()])
            found += ["{", *[str(load) for load in loads], ":", *request, "->"]
            found += ["none" if gift is None else str(gift), "}"]
            table += (((loads, told), gift),)
            many += len(loads) + len(told)
        return found, table, many

    def cover(self):
        first, houses, some = self.runs()
        second, requests, more = self.runs()
        return first + ["/"] + second, (houses, requests), some + more

    def part(self):
        word = self.rng.choice(["row", "gifts", "cover", "giver"])
        name = self.rng.choice(WORDS)
        make = {"row": self.row, "gifts": self.gifts, "cover": self.cover, "giver": self.table}[word]
        found, value, many = make()
        return [word, name, *found, ";"], (word, name, value), many

    def sheet(self):
        c = self.number()
        found, worths, many = self.runs()
        found = ["sheet", "{", "room", str(c), ";", "houses", *found, ";"]
        parts = ()
        for _ in range(self.rng.choice([0, 1, 2, 3])):
            more, part, some = self.part()
            found, parts, many = found + more, parts + (part,), many + some
        return found + ["}"], ((c, worths), parts), many


def forms(rng):
    """The three readers, each with its form and with what makes texts of it."""
    told = Told(rng)
    return [(read_sheet, SHEET, told.sheet), (read_row, REQUESTS, told.row), (read_gifts, GIFTS, told.gifts)]


class Telling(Case):
    def test_requests(self):
        for text, row in (("", ()), (" \n", ()), ("[]", ((),)), ("[007]", ((0, 0, 7),)), ("[3 1]", ((3, 1),)),
                          ("[2 to 4]", ((2, 3, 4),)), ("[4 to 2]", ((),)), ("[2 to 2]", ((2,),)),
                          ("[1]x 2[0]", ((1,), (1,), (0,))), ("[1]x 0", ()), ("[1]\nx\n1", ((1,),)),
                          ("[0 to 1 1 to 2 9]", ((0, 1, 1, 2, 9),)), ("[] x 3", ((), (), ())), ("[0to 1]", ((0, 1),))):
            self.tells(row, read_row, text)

    def test_gifts(self):
        for text, gifts in (("", ()), ("\n ", ()), ("0", (0,)), ("none", (None,)), ("1x 0", ()),
                            ("none x 2,0,5 x 3", (None, None, 0, 5, 5, 5)), ("1 x 0, none x 1", (None,))):
            self.tells(gifts, read_gifts, text)

    def test_what_is_made_up(self):
        rng = rng_of(31)
        for _ in range(700):
            for reader, form, make in forms(rng):
                found, told, _ = make()
                text = spaced(rng, found)
                self.assertIsNone(wrong_place(form, text))
                if reader is read_sheet and outcome(check_sheet, told) != ("value", None):
                    self.assertEqual(outcome(check_sheet, told), self.same(reader, text))
                else:
                    self.tells(told, reader, text)

    def test_words_of_the_forms_are_names(self):
        for name in WORDS:
            text = f"sheet{{room 1;houses 1;row {name};gifts {name}1 none;cover {name}2 / ;giver {name}3;}}"
            if len(name) == 12:
                # One character more is no word.
                self.fails("BadText", {"place": text.index(name + "1")}, read_sheet, text)
                continue
            wanted = (("row", name, ()), ("gifts", name + "1", (None,)), ("cover", name + "2", ((), ())),
                      ("giver", name + "3", ()))
            self.tells(((1, (1,)), wanted), read_sheet, text)
        self.tells(((1, (1,)), (("gifts", "none", (None, None)), ("gifts", "x", ()), ("row", "to", ()))), read_sheet,
                   "sheet { room 1; houses 1 x 1; gifts none none x 2; gifts x; row to; }")

    def test_what_is_no_sheet(self):
        ahead = "sheet { room 2; houses 1, 1; "
        for text, path in (("sheet { room 0; houses ; }", (0, 0)), ("sheet { room 1; houses ; }", (0, 1)),
                           ("sheet { room 1; houses 1, 0; }", (0, 1, 1)), ("sheet { room 1; houses 1 x 0; }", (0, 1)),
                           (ahead + "row a; gifts a; }", (1, 1, 1)), (ahead + "row a [] [1 0]; }", (1, 0, 2, 1, 1)),
                           (ahead + "row a [0 to 2]; }", (1, 0, 2, 0, 2)), (ahead + "gifts a none, 2; }", (1, 0, 2, 1)),
                           (ahead + "giver a {0: [] -> none}; }", (1, 0, 2, 0, 0, 0)),
                           (ahead + "giver a {0 3: [] -> none}; }", (1, 0, 2, 0, 0, 0, 1)),
                           (ahead + "giver a {0 2: [0 to 1] -> 1}; }", (1, 0, 2, 0, 1)),
                           (ahead + "giver a {0 2: [0] -> 0} {0 1: [1] -> 1}; }", (1, 0, 2, 1, 0)),
                           (ahead + "row a []; giver b {0 2: [0] -> 0} {0 2: [0] -> 0}; }", (1, 1, 2, 1, 0))):
            self.fails("BadTree", {"path": path}, read_sheet, text)
        self.tells(((2, (1, 1)), (("cover", "a", ((7,), (8, 8))),)), read_sheet, ahead + "cover a 7 / 8 x 2; }")


class Members(Case):
    """What one run, one lot or one span tells is judged as if each member stood there by itself."""

    def judged(self, text, told):
        wanted = outcome(check_sheet, told)
        if wanted[0] == "value":
            wanted = ("value", told)
        self.assertEqual(repr(wanted), repr(self.same(read_sheet, text)))

    def test_texts_that_tell_nearly_too_much(self):
        nine = (1, (1,) * 9)
        ahead = "sheet{room 1;houses 1 x 9;"
        for text, part in (("cover v 1/0 x 99990;", ("cover", "v", ((1,), (0,) * 99990))),
                           ("cover v 0 x 99990/1;", ("cover", "v", ((0,) * 99990, (1,)))),
                           ("gifts g none x 99991;", ("gifts", "g", (None,) * 99991)),
                           ("gifts g 8 x 99991;", ("gifts", "g", (8,) * 99991)),
                           ("gifts g 8 x 99990, 9;", ("gifts", "g", (8,) * 99990 + (9,))),
                           ("gifts g none x 9, 9 x 99982;", ("gifts", "g", (None,) * 9 + (9,) * 99982)),
                           ("giver v{0:[0 to 99989]->none};", ("giver", "v", ((((0,), tuple(range(99990))), None),))),
                           ("row r[0 to 8] x 9999;", ("row", "r", (tuple(range(9)),) * 9999)),
                           ("row r[] x 99991;", ("row", "r", ((),) * 99991)),
                           ("row r[] x 50000[9 to 5] x 49991;", ("row", "r", ((),) * 99991)),
                           ("row r[] x 50000[9] x 24995;", ("row", "r", ((),) * 50000 + ((9,),) * 24995)),
                           ("row r[0 to 99989];", ("row", "r", (tuple(range(99990)),))),
                           ("row r[3 9 to 99997];", ("row", "r", ((3, *range(9, 99998)),)))):
            self.judged(ahead + text + "}", (nine, (part,)))

    def test_great_houses(self):
        self.judged("sheet{room 2;houses 7 x 100000;}", ((2, (7,) * 100000), ()))
        self.judged("sheet{room 2;houses 7 x 99999, 0;}", ((2, (7,) * 99999 + (0,)), ()))
        self.judged("sheet{room 2;houses 7 x 50, 0 x 99950;}", ((2, (7,) * 50 + (0,) * 99950), ()))
        self.judged("sheet{room 2;houses 0 x 0, 7 x 9, 0 x 0;}", ((2, (7,) * 9), ()))
        great = (1, (1,) * 49999)
        for text, request in (("[0 to 49998]", tuple(range(49999))), ("[0 to 49999]", tuple(range(50000))),
                              ("[0 to 20000 20000 to 30000]", (*range(20001), *range(20000, 30001))),
                              ("[0 to 20000 20001 to 49998]", tuple(range(49999)))):
            self.judged("sheet{room 1;houses 1 x 49999;row r" + text + ";}", (great, (("row", "r", (request,)),)))

    def test_rows_and_gifts_by_themselves(self):
        self.tells((tuple(range(99999)),), read_row, "[0 to 99998]")
        self.tells(((),) * 100000, read_row, "[5 to 4] x 100000")
        self.tells(((5, 6), (5, 6), (7,)), read_row, "[5 to 6] x 2 [9 to 8 7]")
        self.tells((None,) * 100000, read_gifts, "none x 100000")
        self.tells((None,) * 40000 + (3,) * 60000, read_gifts, "none x 40000, 3 x 60000")
        for many in range(1, 40):
            self.tells(tuple(range(many)), read_gifts, ", ".join(str(house) for house in range(many)))
        self.tells(tuple(house for house in range(9) for _ in range(house)), read_gifts,
                   ", ".join(f"{house} x {house}" for house in range(9)))

    def test_requests_by_spans(self):
        for spans, request in (("0 to 2", (0, 1, 2)), ("0 to 3", (0, 1, 2, 3)), ("3", (3,)), ("2 to 9", (2, *range(3, 10))),
                               ("0 1 to 2", (0, 1, 2)), ("0 0 to 2", (0, 0, 1, 2)), ("0 to 1 1", (0, 1, 1)),
                               ("1 0", (1, 0)), ("2 to 1 0", (0,)), ("9 to 8", ()), ("1 9 to 8 2", (1, 2)),
                               ("1 9 to 8 1", (1, 1)), ("0 to 1 3 to 4", (0, 1, 3, 4)), ("0 to 2 1", (0, 1, 2, 1))):
            row = ((), request, (0,), request)
            text = f"sheet{{room 1;houses 1 x 3;row r[][{spans}][0][{spans}];}}"
            self.judged(text, ((1, (1,) * 3), (("row", "r", row),)))
            self.judged(f"sheet{{room 1;houses 1 x 3;giver r{{0 1 0:[{spans}]->none}};}}",
                        ((1, (1,) * 3), (("giver", "r", ((((0, 1, 0), request), None),)),)))

    def test_nearly_right_sheets(self):
        rng = rng_of(37)
        found = {}
        for _ in range(2500):
            lexemes, told = self.nearly_right(rng)
            self.judged(spaced(rng, lexemes), told)
            fault = outcome(check_sheet, told)
            word = fault[1]["path"][1:2] if fault[0] == "BadTree" else None
            found[fault[0], word and told[1][word[0]][0] if word and fault[1]["path"][0] == 1 else word] = True
        self.assertLessEqual({("value", None), ("BadTree", (1,)), ("BadTree", "row"), ("BadTree", "gifts"),
                              ("BadTree", "giver")}, set(found))

    def nearly_right(self, rng):
        """The lexemes of a text, and the sheet or nearly a sheet that it tells."""
        c, worths = rng.randint(1, 3), []
        found = ["sheet", "{", "room", str(c), ";", "houses"]
        for _ in range(rng.randint(1, 2)):
            worth, times = rng.choice([0, 1, 1, 2, 2, 3, 3, 4, 4, 5]), rng.randint(0 if worths else 1, 2)
            found += ([","] if found[-1] != "houses" else []) + [str(worth), "x", str(times)]
            worths += [worth] * times
        found.append(";")
        parts = []
        for name in rng.sample(["a", "b", "c"], rng.randint(1, 3)) + ([] if rng.random() < 0.9 else ["a"]):
            word = rng.choice(["row", "gifts", "cover", "giver", "giver"])
            more, value = getattr(self, word)(rng, c, len(worths))
            found += [word, name, *more, ";"]
            parts.append((word, name, value))
        return found + ["}"], ((c, tuple(worths)), tuple(parts))

    def house(self, rng, houses):
        return rng.randrange(houses + (rng.random() < 0.08))

    def request(self, rng, houses):
        found, told = ["["], []
        least = 0
        while least < houses and rng.random() < 0.8:
            first = rng.randint(least, houses - 1) if rng.random() < 0.93 else self.house(rng, houses)
            last = rng.randint(first, houses - 1 if rng.random() < 0.93 else houses + 2) if first < houses else first
            found += [str(first), "to", str(last)]
            told += range(first, last + 1)
            least = last + 1
        return found + ["]"], tuple(told)

    def row(self, rng, _, houses):
        found, told = [], ()
        for _ in range(rng.randint(0, 3)):
            request, value = self.request(rng, houses)
            times = rng.randint(0, 3)
            found += request + ["x", str(times)]
            told += (value,) * times
        return found, told

    def gifts(self, rng, _, houses):
        found, told = [], ()
        for _ in range(rng.randint(0, 3)):
            gift, times = rng.choice([None, self.house(rng, houses)]), rng.randint(0, 3)
            found += ([","] if found else []) + ["none" if gift is None else str(gift), "x", str(times)]
            told += (gift,) * times
        return found, told

    def cover(self, rng, _, __):
        number, times = rng.randint(0, 9), rng.randint(0, 3)
        return [str(number), "x", str(times), "/"], ((number,) * times, ())

    def giver(self, rng, c, houses):
        cases = []
        for _ in range(rng.randint(0, 3)):
            loads = tuple(rng.randint(0, c if rng.random() < 0.97 else c + 1) for _ in range(houses))
            if rng.random() < 0.03:
                loads += (0,)
            lexemes, request = self.request(rng, houses)
            gift = rng.choice([None, *request[:2], self.house(rng, houses)])
            cases.append((loads, request, gift, lexemes))
        if rng.random() < 0.85:
            cases.sort(key=lambda case: case[:2])
        found = []
        for loads, _, gift, lexemes in cases:
            found += ["{", *[str(load) for load in loads], ":", *lexemes, "->"]
            found += ["none" if gift is None else str(gift), "}"]
        return found, tuple(((loads, request), gift) for loads, request, gift, _ in cases)


class WrongPlaces(Case):
    def test_those_of_the_document(self):
        self.fails("BadText", {"place": 8}, read_sheet, "sheet { }")
        self.fails("BadText", {"place": 15}, read_sheet, "sheet { room 1 }")
        self.fails("BadText", {"place": 5}, read_row, "[0 to]")

    def test_the_end(self):
        for text in ("", " ", "\n\n", "sheet", "sheet {", "sheet { room 1; houses 1; ",
                     "sheet { room 1; houses 1; row\n"):
            self.fails("BadText", {"place": len(text)}, read_sheet, text)
        for text in ("[", "[0", "[0 to ", "[] x", "[] x  \n"):
            self.fails("BadText", {"place": len(text)}, read_row, text)
        for text in ("0,", "none x", "0 x 1 , "):
            self.fails("BadText", {"place": len(text)}, read_gifts, text)

    def test_runs_and_gifts(self):
        for text, place in (("3x4", 1), ("3 x4", 2), ("x 3", 0), ("0 0", 2), ("007", 1), ("0 x 00", 5),
                            ("none none", 5), ("0 x none", 4), ("nothing", 0), ("0 ; 1", 2), (", 0", 0),
                            ("0 , , 1", 4), ("0 x 1 x 1", 6)):
            self.fails("BadText", {"place": place}, read_gifts, text)

    def test_requests(self):
        for text, place in (("0", 0), ("]", 0), ("[0,1]", 2), ("[0 to to 1]", 6), ("[to 1]", 1), ("[0 to 1 to 2]", 8),
                            ("[x]", 1), ("[] x 1 x 1", 7), ("[] x [", 5), ("[] ]", 3), ("[[", 1), ("[none]", 1),
                            ("[1] 2", 4), ("[1] x 01", 7), ("[];", 2),
                            ("[1]x2[0]", 3), ("[0to1]", 2)):
            self.fails("BadText", {"place": place}, read_row, text)

    def test_a_sheet(self):
        ahead = "sheet { room 1; houses 1; "
        for text, place in (("sheets { }", 0), ("{", 0), ("sheet { houses", 8), ("sheet { room ;", 13),
                            ("sheet { room 1; houses row", 23), ("sheet { room 1, houses", 14),
                            (ahead + "yard", 26), (ahead + "row ;", 30), (ahead + "row 1", 30), (ahead + "row a 1", 32),
                            (ahead + "cover a 1 ;", 36), (ahead + "cover a none", 34), (ahead + "giver a { [", 36),
                            (ahead + "giver a {0 : 1", 39), (ahead + "giver a {0: [] : 1", 41),
                            (ahead + "giver a {0: [] -> }", 44), (ahead + "giver a {0: [] -> 1 ,", 46),
                            (ahead + "} ;", 28), (ahead + "} }", 28), (ahead + "gifts a 0 / 1", 36)):
            self.fails("BadText", {"place": place}, read_sheet, text)

    def test_characters_that_begin_no_lexeme(self):
        for text, place in (("[0 \t]", 3), ("[ ] \t", 4), ("] \t", 0), ("\t ]", 0), ("[ -", 2), ("[0 to ] -", 6),
                            ("[0 - to ]", 3), ("[0 -> ]", 3), ("[0 > ]", 3), ("[0 abcdefghijklm", 3), ("[0]A", 3),
                            ("[0 to\t", 5), ("[0 to A", 6)):
            self.fails("BadText", {"place": place}, read_row, text)

    def test_texts_cut_anywhere(self):
        rng = rng_of(32)
        for _ in range(60):
            for reader, form, make in forms(rng):
                text = spaced(rng, make()[0])
                for end in range(len(text)):
                    place = wrong_place(form, text[:end])
                    if place is not None:
                        self.fails("BadText", {"place": place}, reader, text[:end])

    def test_one_lexeme_too_many_exchanged_or_left_out(self):
        rng = rng_of(33)
        others = ["sheet", "{", "}", "[", "]", ";", ":", ",", "/", "->", "x", "to", "none", "0", "7", "row", "gifts",
                  "cover", "giver", "room", "houses", "abcdefghijklm", "\t", "-", ">", "A"]
        wrong = 0
        for _ in range(1500):
            for reader, form, make in forms(rng):
                found = list(make()[0])
                at = rng.randint(0, len(found))
                way = rng.randint(0, 3)
                if way == 0:
                    found.insert(at, rng.choice(others))
                elif way == 1 and at < len(found):
                    found[at] = rng.choice(others)
                elif way == 2 and at < len(found):
                    del found[at]
                elif found:
                    other = rng.randrange(len(found))
                    at = min(at, len(found) - 1)
                    found[at], found[other] = found[other], found[at]
                text = spaced(rng, found)
                if rng.random() < 0.1:
                    at = rng.randint(0, len(text))
                    text = text[:at] + rng.choice("\t->A%") + text[at:]
                place = wrong_place(form, text)
                if place is None:
                    self.assertNotEqual("BadText", self.same(reader, text)[0], text)
                else:
                    wrong += 1
                    self.fails("BadText", {"place": place}, reader, text)
        self.assertGreater(wrong, 2000)

    def test_numerals_of_any_length_at_and_behind_the_wrong_place(self):
        long = "9" * 20000
        self.fails("BadText", {"place": 0}, read_row, long)
        self.fails("BadText", {"place": 2}, read_row, "[]" + long)
        self.fails("BadText", {"place": 1}, read_row, "[x " + long)
        self.fails("BadText", {"place": 2}, read_gifts, "0 " + long)
        self.fails("BadText", {"place": 6}, read_sheet, "sheet " + long)
        self.fails("BadText", {"place": 6}, read_sheet, "sheet } room " + long)


class Greatness(Case):
    def test_rows(self):
        self.tells(((0, 1, 2, 3, 4, 5, 6, 7, 8, 9),) * 5, read_row, "[0 to 9] x 5")
        self.tells(((),) * 100000, read_row, "[] x 100000")
        self.fails("TooGreat", {}, read_row, "[] x 100001")
        self.tells((tuple(range(1, 100000)),), read_row, "[1 to 99999]")
        self.fails("TooGreat", {}, read_row, "[1 to 100000]")
        self.assertEqual(10000, len(self.value(read_row, "[0 to 8] x 10000")))
        self.fails("TooGreat", {}, read_row, "[0 to 8] x 10000 []")
        self.assertEqual(10001, len(self.value(read_row, "[0 to 8] x 9999 [0 to 7] []")))
        self.fails("TooGreat", {}, read_row, "[0 to 8] x 9999 [0 to 7] [] x 2")

    def test_gifts(self):
        self.assertEqual((None,) * 99999 + (3,), self.value(read_gifts, "none x 99999, 3"))
        self.fails("TooGreat", {}, read_gifts, "none x 99999, 3, none")
        self.fails("TooGreat", {}, read_gifts, "3 x 100001")
        self.tells((7,), read_gifts, "3 x 0, 7")

    def test_spans_that_tell_none_count_nothing(self):
        self.tells(((),) * 100000, read_row, "[5 to 0] x 100000")
        self.fails("TooGreat", {}, read_row, "[5 to 0] x 100001")
        self.tells((tuple(range(9)),) * 10000, read_row, "[7 to 3 0 to 8] x 10000")
        self.fails("TooGreat", {}, read_row, "[7 to 3 0 to 8] x 10000 []")
        case = "giver a {0: [9 to 3] -> none};"
        told = self.value(read_sheet, self.sheet("1", case + "row b [] x 99998;"))
        self.assertEqual(("giver", "a", ((((0,), ()), None),)), told[1][0])
        self.fails("TooGreat", {}, read_sheet, self.sheet("1", case + "row b [] x 99999;"))

    def test_what_is_told_no_times_counts_nothing(self):
        great = "9" * 40
        self.tells((), read_row, f"[0 to {great}] x 0")
        self.tells(((5,),), read_row, f"[{great} to 0 1 to 9] x 0 [5 {great} to 0]")
        self.tells((), read_gifts, f"{great} x 0")
        self.tells((int(great),), read_gifts, great)
        for text in (f"[0 to {great}]", f"[] x {great}", f"[{great}] x {great}", f"[0 to {great}] x 0 [0 to {great}]"):
            self.fails("TooGreat", {}, read_row, text)
        self.fails("TooGreat", {}, read_gifts, f"1 x {great}")

    def sheet(self, worths, parts):
        return f"sheet {{ room 1; houses {worths}; {parts} }}"

    def test_each_sort_counts_in_a_sheet(self):
        # Each of these tells just so many members beside one house.
        sorts = [("row a [0] x {};", 2), ("row a [] x {};", 1), ("gifts a none x {};", 1), ("gifts a 0 x {};", 1),
                 ("cover a 0 x {} / ;", 1), ("cover a / 5 x {};", 1), ("cover a 1 / 5 x {};", 1)]
        for form, each in sorts:
            aside = 1 + form.count("a 1")
            fits = (100000 - aside) // each
            rest = " row b [] x {};".format(100000 - aside - fits * each)
            name = self.value(read_sheet, self.sheet("1", form.format(fits) + rest))[1][0][1]
            self.assertEqual("a", name)
            more = " row b [] x {};".format(100001 - aside - fits * each)
            self.fails("TooGreat", {}, read_sheet, self.sheet("1", form.format(fits) + more))

    def test_worths_and_cases_count(self):
        self.assertEqual(100000, len(self.value(read_sheet, self.sheet("1 x 100000", ""))[0][1]))
        self.fails("TooGreat", {}, read_sheet, self.sheet("1 x 100001", ""))
        case = "giver a {0: [0] -> 0};"
        self.assertEqual(2, len(self.value(read_sheet, self.sheet("1", case + "row b [] x 99997;"))[1]))
        self.fails("TooGreat", {}, read_sheet, self.sheet("1", case + "row b [] x 99998;"))
        self.fails("TooGreat", {}, read_sheet, self.sheet("1", "giver a {0: [1 to 99999] -> 0};"))
        self.fails("BadTree", {"path": (1, 0, 2, 0, 0, 1, 0)}, read_sheet,
                   self.sheet("1", "giver a {0: [1 to 99998] -> 0};"))

    def test_wrong_places_are_told_ahead_and_wrong_parts_behind(self):
        self.fails("BadText", {"place": 12}, read_row, "[] x 100001 ]")
        self.fails("BadText", {"place": 11}, read_gifts, "1 x 100001 2")
        text = "sheet { room 0; houses 1 x 100001"
        self.fails("BadText", {"place": len(text)}, read_sheet, text)
        self.fails("TooGreat", {}, read_sheet, "sheet { room 0; houses 0 x 100001; row a; row a; }")
        self.fails("BadTree", {"path": (0, 0)}, read_sheet, "sheet { room 0; houses 0 x 99999; row a []; row a; }")


class Writing(Case):
    def test_the_examples_line_by_line(self):
        text = self.value(sheet_text, EXAMPLE)
        self.assertEqual(["sheet {", "room 2;", "houses 1 x 3, 4;", "row a [0 to 2 5] [1] x 2 [];",
                          "gifts g 0, none x 2;", "cover v 1, 0 / 2 x 3;", "giver t {0 1: [0 to 1] -> 0};", "}", ""],
                         text.split("\n"))
        self.tells("[0 to 2 5] [1] x 2 []", row_text, ((0, 1, 2, 5), (1,), (1,), ()))
        self.tells("0, none x 2", gifts_text, (0, None, None))
        self.tells("sheet {\nroom 1;\nhouses 1;\n}\n", sheet_text, ((1, (1,)), ()))

    def test_what_is_empty(self):
        self.tells("", row_text, ())
        self.tells("", gifts_text, ())
        parts = (("row", "a", ()), ("gifts", "b", ()), ("cover", "c", ((), ())), ("cover", "d", ((), (1,))),
                 ("cover", "e", ((1, 1), ())), ("giver", "f", ()))
        self.tells("sheet {\nroom 1;\nhouses 2;\nrow a;\ngifts b;\ncover c /;\ncover d / 1;\n"
                   "cover e 1 x 2 /;\ngiver f;\n}\n", sheet_text, ((1, (2,)), parts))

    def test_cases(self):
        table = ((((0, 0), ()), None), (((0, 1), (0, 1)), 0), (((2, 1), (1,)), 1))
        line = self.value(sheet_text, ((2, (1, 1)), (("giver", "t", table),))).split("\n")[3]
        self.assertEqual("giver t {0 0: [] -> none} {0 1: [0 to 1] -> 0} {2 1: [1] -> 1};", line)

    def test_runs_lots_and_spans_are_as_few_as_can_be(self):
        for row, text in ((((0, 1),), "[0 to 1]"), (((0, 2),), "[0 2]"), (((0, 1, 3, 5, 6, 7),), "[0 to 1 3 5 to 7]"),
                          (((), ()), "[] x 2"), (((0,), (), (0,)), "[0] [] [0]"), (((9, 10, 11),) * 3, "[9 to 11] x 3"),
                          (((0,), (0,), (0, 1), (0, 1), (0,)), "[0] x 2 [0 to 1] x 2 [0]")):
            self.tells(text, row_text, row)
        for gifts, text in (((None,), "none"), ((0, 0, 1, 0), "0 x 2, 1, 0"), ((None,) * 12, "none x 12"),
                            ((0, None, 0), "0, none, 0"), ((11, 11, 1, 1), "11 x 2, 1 x 2")):
            self.tells(text, gifts_text, gifts)

    def test_what_is_written_tells_the_same(self):
        rng = rng_of(34)
        for _ in range(300):
            sheet = sheets(rng)
            text = self.value(sheet_text, sheet)
            self.tells(sheet, read_sheet, text)
            self.assertTrue(text.endswith("\n}\n"))
            for word, _, value in sheet[1]:
                if word == "row":
                    self.tells(value, read_row, self.value(row_text, value))
                if word == "gifts":
                    self.tells(value, read_gifts, self.value(gifts_text, value))

    def test_lines_have_no_more_blanks_and_lexemes_than_they_need(self):
        rng = rng_of(35)
        for _ in range(200):
            for line in sheet_text(sheets(rng)).split("\n")[:-1]:
                found = [lexeme for _, lexeme, _ in plain_lexemes(line)[0]]
                for tight in (";", ":", ",", "]", "}"):
                    self.assertNotIn(" " + tight, line if line != "}" else "")
                self.assertNotIn("[ ", line)
                self.assertNotIn("{ ", line)
                self.assertNotIn("  ", line)
                self.assertEqual(line, line.strip())
                blanks = sum(1 for before, after in zip(found, found[1:])
                             if before not in "[{" and after not in (";", ":", ",", "]", "}"))
                self.assertEqual(blanks, line.count(" "))

    def test_great_sheets(self):
        rng = rng_of(36)
        yard = (100, tuple(rng.randint(1, 10 ** 6) for _ in range(1000)))
        row = helper.rows(rng, yard, 5000, 14)
        sheet = (yard, (("row", "a", row), ("gifts", "b", tuple(rng.choice([None, 5, 999]) for _ in range(5000)))))
        self.assertEqual(sheet, read_sheet(sheet_text(sheet)))


if __name__ == "__main__":
    unittest.main()
