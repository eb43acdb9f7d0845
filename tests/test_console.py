"""S10.4: consoles, the forms of their lines, and their answers."""

import unittest

from helper import (Case, GIFTS, NUMERAL, PART, REQUEST, REQUESTS, RUNS, WORD, cat, either, outcome, plain_lexemes,
                    rng_of, sign, spaced, wrong_place)
from shareforsure.console import Console
from shareforsure.desk import Desk
from shareforsure.sheettexts import gifts_text, row_text, sheet_text
from shareforsure.tables import greedy_table
from test_desk import NAMES, answer_by_hand, desk_behind, sheet_by_hand, some_acts, some_asks, word_by_hand

END = sign(";")
LINE = either(cat(sign("yard"), NUMERAL, sign(":"), RUNS, END), PART, cat(sign("add"), WORD, REQUEST, END),
              *[cat(sign(word), *[WORD] * many, END) for word, many in (
                  ("drop", 1), ("undo", 0), ("redo", 0), ("mark", 1), ("since", 1), ("most", 1), ("told", 1),
                  ("quotient", 1), ("run", 1), ("given", 2), ("ran", 2), ("show", 3), ("least", 1), ("best", 0),
                  ("parts", 0))])
PIECES = ["yard", "row", "gifts", "cover", "giver", "drop", "add", "undo", "redo", "mark", "since", "most", "told",
          "quotient", "run", "given", "ran", "show", "least", "best", "parts", "a", "b", "x", "to", "none", "0", "1",
          "12", "[", "]", "{", "}", ";", ";", ":", ",", "/", "->", "abcdefghijklm", "A", "-", ">", "\t", "9" * 300]


def setting():
    """A console with its desk, on which there is something to ask about."""
    desk = desk_behind([
        ("yard", (1, (3, 1, 1))), ("put", ("row", "r", ((0, 1), (0, 2), (0,)))), ("put", ("gifts", "g", (0, 2, None))),
        ("put", ("gifts", "h", (1, 2, 0))), ("put", ("cover", "v", ((2, 0, 0), (1, 1, 1)))),
        ("put", ("cover", "w", ((9, 9, 9), (1, 1, 1)))), ("put", ("giver", "t", greedy_table((1, (3, 1, 1))))),
        ("put", ("row", "e", ()))])
    return Console(desk), desk


def all_of(desk):
    return desk.sheet(), desk.acts(), desk.marks(), [desk.since(name) for name in desk.marks()], desk.work()


def text_of(act):
    """The line of an act that has the form to be told."""
    if act[0] == "yard":
        c, worths = act[1]
        return f"yard {c} : {gifts_text(worths)} ;"
    if act[0] == "put":
        text = sheet_text(((1, (1,)), (act[1],)))
        return text.split("\n")[3]
    return f"drop {act[1]} ;" if act[0] == "drop" else f"add {act[1]} {row_text((act[2],))} ;"


def answer_text(ask, told):
    """The answer to a question by what a second reckoning tells."""
    kind, value = told
    if kind != "value":
        return "no great" if kind == "TooGreat" else "no " + value["word"]
    if ask == "run":
        return gifts_text(value)
    if ask == "show":
        return "yes" if value is None else " ".join(str(member) for member in value)
    if ask in ("quotient", "least", "best"):
        return "none" if value is None else str(value[0]) if value[1] == 1 else f"{value[0]}/{value[1]}"
    return str(value)


class Lines(Case):
    def answers(self, console, *pairs):
        for line, wanted in pairs:
            self.assertEqual(repr(wanted), repr(console.answer(line)), line)

    def test_a_day_at_the_console(self):
        console = Console(Desk())
        self.answers(console, ("parts ;", ""), ("best ;", "1"), ("undo ;", "no nothing"), ("redo ;", "no nothing"),
                     ("yard 2 : 1 x 2 ;", "done"), ("row p [0 to 1] x 2 [0] x 2;", "done"), ("most p;", "4"),
                     ("told p;", "3"), ("quotient p;", "3/4"), ("run p ;", "0, 1, 0, none"), ("best ;", "2/3"),
                     ("gifts g 1 x 2, 0 x 2;", "done"), ("given p g;", "4"), ("cover v 0 x 2 / 1 x 4;", "done"),
                     ("show p g v;", "yes"), ("giver t;", "done"), ("ran t p;", "0"), ("least t;", "0"),
                     ("parts;", "p g v t"), ("mark m;", "done"), ("undo;", "done"), ("since m;", "-1"),
                     ("redo;", "done"), ("since m;", "0"), ("add p [];", "done"), ("since m;", "1"),
                     ("since n;", "no mark"), ("drop p;", "done"), ("drop p;", "no name"), ("most p;", "no name"),
                     ("parts ;", "g v t"))

    def test_answers(self):
        console, _ = setting()
        self.answers(console, ("most r;", "5"), ("told r;", "4"), ("quotient r;", "4/5"), ("run r;", "0, 2, none"),
                     ("most e;", "0"), ("told e;", "0"), ("quotient e;", "none"), ("run e;", ""), ("given r g;", "4"),
                     ("given r h;", "5"), ("ran t r;", "4"), ("ran t e;", "0"), ("show r h v;", "yes"),
                     ("show r g v;", "sum 4 5"), ("show r h w;", "sum 5 30"), ("show e g v;", "gifts"),
                     ("given e g;", "no gifts"), ("show r h g;", "no sort"), ("show r a g;", "no name"),
                     ("least t;", "1/2"), ("least r;", "no sort"), ("best;", "1/2"), ("parts;", "r g h v w t e"),
                     ("add g [];", "no sort"), ("add r [3];", "no request"), ("add r [1 0];", "no request"),
                     ("add x [];", "no name"), ("gifts r 3;", "no part"), ("row x [0 0];", "no part"),
                     ("giver x {2 0 0: [] -> none};", "no part"), ("yard 0 : 1;", "no yard"), ("yard 1 : ;", "no yard"),
                     ("yard 1 : 1;", "no fit"), ("cover u 0 x 3 / 0 x 3;", "done"), ("show r h u;", "cover"),
                     ("run r;", "0, 2, none"))

    def test_the_first_answers_of_the_document(self):
        console, desk = setting()
        told = all_of(desk)
        self.answers(console, ("undo ; redo ;", "no 7"), ("yard 1 ;", "no 7"), ("undo", "no 4"), ("add a 3 ;", "no 6"))
        self.assertEqual(told, all_of(desk))

    def test_wrong_places(self):
        console, desk = setting()
        told = all_of(desk)
        self.answers(console, ("", "no 0"), ("  \n ", "no 4"), (";", "no 0"), ("a ;", "no 0"), ("  sheet { }", "no 2"),
                     ("undo \t;", "no 5"), ("\tundo ;", "no 0"), ("Undo ;", "no 0"), ("undo ;;", "no 6"),
                     ("best ; \n-", "no 8"), ("parts r ;", "no 6"), ("most ;", "no 5"), ("most 1 ;", "no 5"),
                     ("most r r ;", "no 7"), ("given r ;", "no 8"), ("show r g ;", "no 9"), ("yard : 1 ;", "no 5"),
                     ("yard 1 : 1, ;", "no 12"), ("yard 1 : 1 x ;", "no 13"), ("yard 01 : 1 ;", "no 6"),
                     ("add r [0 to] ;", "no 11"), ("add r [] x 2 ;", "no 9"), ("add r ;", "no 6"), ("row ;", "no 4"),
                     ("row r [0", "no 8"), ("row r [] x ;", "no 11"), ("gifts g 0, ;", "no 11"), ("put a ;", "no 0"),
                     ("cover v 1 ;", "no 10"), ("giver t {0 : 1 -> 0} ;", "no 13"), ("giver t {0 : [] - 0} ;", "no 16"),
                     ("mark abcdefghijklm ;", "no 5"), ("undo 7777777777" + "7" * 5000, "no 5"),
                     ("row r [0] x " + "1" * 40, "no 52"), ("gifts g 0 x 100001", "no 18"))
        self.assertEqual(told, all_of(desk))

    def test_blanks_and_line_feeds(self):
        console, _ = setting()
        self.answers(console, ("most r;", "5"), ("\n\nmost\nr\n;\n", "5"), ("   most   r   ;   ", "5"),
                     ("row r[0to1]x2[2]x1;", "no 7"), ("row r[0 to 1]x 2[2]x 1[]x 0;", "done"),
                     ("run r;", "0, 1, 2"), ("yard 2:3 x 2,1;", "done"), ("undo;undo;", "no 5"), ("run r;", "0, 1, 2"),
                     ("row r[0]x 2[2]x 1;", "done"), ("run r;", "0 x 2, 2"))

    def test_runs_and_spans(self):
        console, desk = setting()
        desk.do(("drop", "t"))
        self.answers(console, ("yard 3 : 5 x 0, 2 x 3, 4, 4 x 1;", "done"),
                     ("row q [1 to 0 2 3 to 4] x 2 [7] x 0;", "done"),
                     ("gifts q2 none x 2, 1 x 0, 4;", "done"), ("cover q3 / 7 x 2, 0;", "done"),
                     ("giver q4 {0 0 0 0 0: [0 to 1] -> 1} {0 0 3 0 0: [] -> none};", "done"),
                     ("add q [0 to 0 4];", "done"), ("add q [];", "done"))
        self.assertEqual((3, (2, 2, 2, 4, 4)), desk.sheet()[0])
        self.assertEqual((("row", "q", ((2, 3, 4), (2, 3, 4), (0, 4), ())), ("gifts", "q2", (None, None, 4)),
                          ("cover", "q3", ((), (7, 7, 0))),
                          ("giver", "q4", ((((0,) * 5, (0, 1)), 1), (((0, 0, 3, 0, 0), ()), None)))),
                         desk.sheet()[1][6:])
        self.assertEqual(("add", "q", (0, 4)), desk.acts()[-2])

    def test_names_that_are_words_of_forms(self):
        console = Console(Desk())
        self.answers(console, ("row row [];", "done"), ("gifts gifts none;", "done"), ("given row gifts;", "0"),
                     ("mark mark;", "done"), ("since mark;", "0"), ("row undo;", "done"), ("most undo;", "0"),
                     ("cover x 1 x 2/3 x 4;", "done"), ("giver to;", "done"), ("ran to row;", "0"),
                     ("parts;", "row gifts undo x to"), ("drop x;", "done"), ("add none [0];", "no name"),
                     ("row none [0] x 2;", "done"), ("add none [0];", "done"), ("run none;", "0, none x 2"))

    def test_too_great(self):
        console, desk = setting()
        told = all_of(desk)
        self.answers(console, ("gifts g 0 x 100001;", "no great"), ("row a [0 to 9] x 9091;", "no great"),
                     ("add a [0 to 99999];", "no great"), ("add r [0 to 99999];", "no great"),
                     ("add r [0 to 99998];", "no request"), ("add a [0 to 99998];", "no name"),
                     ("yard 0 : 1 x 100001;", "no great"), ("yard 0 : 1 x 100000;", "no yard"),
                     ("cover v 1 x 50000 / 1 x 50001;", "no great"), ("row r [] x 100001;", "no great"),
                     ("row r [9 to " + "9" * 40 + "];", "no great"), ("gifts r 7 x " + "9" * 40 + ";", "no great"),
                     ("giver r {0: [0 to 99999] -> 0};", "no great"), ("giver r {0: [0 to 99998] -> 0};", "no part"),
                     ("gifts g 0 x 99999, 3, 0;", "no great"), ("gifts g 0 x 99999, 3;", "no part"))
        self.assertEqual(told, all_of(desk))
        self.answers(console, ("row r [9 to " + "9" * 40 + "] x 0;", "done"), ("row r [0] x 50000;", "done"),
                     ("drop t;", "done"), ("yard 1 : 1 x 100000;", "done"))
        self.assertEqual(("row", "r", ((0,),) * 50000), desk.sheet()[1][0])

    def test_too_great_to_be_asked(self):
        console, desk = setting()
        self.answers(console, ("giver t;", "done"), ("yard 3 : 1 x 3;", "done"), ("least t;", "no great"),
                     ("best;", "no great"), ("least r;", "no sort"), ("least x;", "no name"), ("ran t r;", "0"))
        self.assertEqual((0, 0), desk.work())
        # Far too great is told at once, too.
        self.answers(console, ("yard " + "9" * 40 + " : 1 x 90000;", "done"), ("best;", "no great"),
                     ("least t;", "no great"))

    def test_two_consoles_on_one_desk(self):
        desk = Desk()
        one, other = Console(desk), Console(desk)
        self.answers(one, ("yard 2 : 1 x 2;", "done"), ("row a [0];", "done"))
        self.answers(other, ("add a [1];", "done"), ("mark m;", "done"), ("most a;", "2"))
        self.answers(one, ("undo;", "done"), ("since m;", "-1"), ("most a;", "1"))
        self.answers(other, ("redo;", "done"), ("most a;", "2"))
        self.assertEqual(3, len(desk.acts()))
        desk.do(("drop", "a"))
        self.answers(one, ("parts;", ""), ("since m;", "1"))

    def test_drawn_acts_and_questions(self):
        kinds = {}
        for seed in range(40):
            rng = rng_of(1500 + seed)
            desk, done, gone, marks = Desk(), [], [], {}
            console = Console(desk)
            for _ in range(50):
                sheet, draw = desk.sheet(), rng.random()
                if draw < 0.5:
                    act = some_acts(rng, sheet)
                    if outcome(text_of, act)[0] != "value" or not is_told(act):
                        continue
                    word = word_by_hand(sheet, act)
                    line, wanted = text_of(act), "done" if word is None else "no " + word
                    if word is None:
                        done, gone = done + [act], []
                elif draw < 0.6:
                    line, wanted = "undo ;", "done" if done else "no nothing"
                    done, gone = done[:-1], gone + done[-1:]
                elif draw < 0.68:
                    line, wanted = "redo ;", "done" if gone else "no nothing"
                    done, gone = done + gone[-1:], gone[:-1]
                elif draw < 0.72:
                    name = rng.choice(NAMES)
                    line, wanted, marks = f"mark {name} ;", "done", {**marks, name: len(done)}
                elif draw < 0.77:
                    name = rng.choice(NAMES)
                    line, wanted = f"since {name};", str(len(done) - marks[name]) if name in marks else "no mark"
                elif draw < 0.8:
                    line, wanted = "parts;", " ".join(part[1] for part in sheet[1])
                else:
                    ask = some_asks(rng, sheet)
                    if not all(name in NAMES for name in ask[1:] if isinstance(name, str)) or not all(
                            isinstance(name, str) for name in ask):
                        continue
                    line, wanted = " ".join(ask) + " ;", answer_text(ask[0], outcome(answer_by_hand, sheet, *ask))
                line = spaced(rng, [lexeme for _, lexeme, _ in plain_lexemes(line)[0]])
                kinds[line.split()[0], wanted.split(" ")[0]] = True
                self.assertEqual(repr(wanted), repr(console.answer(line)), line)
                self.assertEqual((sheet_by_hand(done), done), (desk.sheet(), desk.acts()))
        self.assertGreater(len(kinds), 40)

    def test_drawn_wrong_lines(self):
        rng = rng_of(1600)
        console, desk = setting()
        told = all_of(desk)
        right = [line for line in ("yard 1 : 3, 1 x 2 ;", "row r [0 to 1] [0 2] [0] x 1;", "gifts g 0, 2 x 1, none;",
                                   "cover v 2, 0 x 2 / 1 x 3;", "giver t {0 0 0: [0 to 1 2] -> 0} {0 0 1: [] -> none};",
                                   "drop r;", "add r [0 to 1 2];", "undo;", "redo;", "mark m;", "since m;", "most r;",
                                   "told r;", "quotient r;", "run r;", "given r g;", "ran t r;", "show r g v;",
                                   "least t;", "best;", "parts;")]
        places = {}
        for number in range(6000):
            lexemes = [lexeme for _, lexeme, _ in plain_lexemes(rng.choice(right))[0]]
            for _ in range(rng.choice([1, 1, 2])):
                at = rng.randint(0, len(lexemes))
                draw = rng.random()
                if draw < 0.4:
                    lexemes.insert(at, rng.choice(PIECES))
                elif draw < 0.7:
                    del lexemes[at:at + rng.choice([1, 1, 9])]
                else:
                    lexemes[at:at + 1] = [rng.choice(PIECES)]
            text = rng.choice([" ".join(lexemes), spaced(rng, lexemes), " ".join(lexemes).replace(" ", "")])
            place = wrong_place(LINE, text)
            if place is None:
                self.assertNotRegex(Console(desk.twin()).answer(text), r"^no [0-9]", text)
                continue
            places[place] = True
            self.assertEqual(f"no {place}", console.answer(text), text)
            if number % 100 == 0:
                self.assertEqual(told, all_of(desk))
        self.assertEqual(told, all_of(desk))
        self.assertGreater(len(places), 30)

    def test_answers_are_repeated(self):
        console, desk = setting()
        for line in ("most r;", "run r;", "show r g v;", "undo", "parts;", "best;", "least t;", "drop x;", "since m;"):
            first = console.answer(line)
            self.assertIs(str, type(first))
            self.assertEqual(first, console.answer(line))
            self.assertEqual(first, Console(desk).answer(line))


def is_told(act):
    """Whether a line can tell an act: it is made of numbers, names and tuples as the forms have them."""
    if type(act) is not tuple or act[0] not in ("yard", "put", "drop", "add"):
        return False
    line = text_of(act)
    form = {"yard": cat(sign("yard"), NUMERAL, sign(":"), RUNS, END), "put": PART, "drop": cat(sign("drop"), WORD, END),
            "add": cat(sign("add"), WORD, REQUEST, END)}[act[0]]
    if wrong_place(form, line) is not None:
        return False
    twin = Desk()
    told = []
    twin.do = lambda passed: told.append(passed)
    return Console(twin).answer(line) == "done" and repr(told) == repr([act])


class Forms(Case):
    def test_the_second_reading_knows_the_forms(self):
        for form, text in ((LINE, "undo ;"), (LINE, "show a b c ;"), (REQUESTS, "[0 to 1] x 2"),
                           (GIFTS, "none x 3, 1")):
            self.assertIsNone(wrong_place(form, text))
        self.assertEqual([7, 7, 4, 6], [wrong_place(LINE, text) for text in
                                        ("undo ; redo ;", "yard 1 ;", "undo", "add a 3 ;")])


if __name__ == "__main__":
    unittest.main()
