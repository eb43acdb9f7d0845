"""S1.3: the lexemes of texts."""

import unittest

from helper import Case, plain_lexemes, rng_of
from shareforsure.lexemes import lexemes


class Lexemes(Case):
    def found(self, text, *wanted):
        told = self.value(lexemes, text)
        self.assertEqual(list(wanted), [lexeme for _, lexeme, _ in told])
        for sort, lexeme, place in told:
            self.assertEqual(lexeme, text[place:place + len(lexeme)])
            self.assertEqual("word" if lexeme[0].isalpha() else "numeral" if lexeme[0].isdigit() else "sign", sort)
            self.assertIs(int, type(place))

    def test_each_sort(self):
        self.tells([("word", "a", 0), ("numeral", "12", 2), ("sign", "->", 4), ("sign", "{", 6)], lexemes, "a 12->{")
        self.found("{}[];:,/->", "{", "}", "[", "]", ";", ":", ",", "/", "->")
        self.found("sheet { room 1 }", "sheet", "{", "room", "1", "}")

    def test_nothing(self):
        for text in ("", " ", "\n", " \n \n\n "):
            self.tells([], lexemes, text)

    def test_numerals(self):
        self.found("007", "0", "0", "7")
        self.found("3x4", "3", "x4")
        self.found("10", "10")
        self.found("100 0100", "100", "0", "100")
        self.found("0x1", "0", "x1")
        self.found("9" * 1000 + "a", "9" * 1000, "a")
        long = "1" * 199990
        self.tells([("numeral", long, 3), ("word", "x", 199993)], lexemes, "\n  " + long + "x")
        self.found("0" * 300, *["0"] * 300)

    def test_words(self):
        self.found("abcdefghijkl", "abcdefghijkl")
        self.found("a12345678901", "a12345678901")
        self.found("3abcdefghijkl", "3", "abcdefghijkl")
        self.found("a b1c a\nb", "a", "b1c", "a", "b")
        self.fails("BadText", {"place": 0}, lexemes, "abcdefghijklm")
        self.fails("BadText", {"place": 2}, lexemes, "a a123456789012")
        self.fails("BadText", {"place": 1}, lexemes, "3abcdefghijklm")
        self.fails("BadText", {"place": 1}, lexemes, "[" + "a" * 100000)

    def test_arrows(self):
        self.found("->->", "->", "->")
        for text in ("-", ">", "- >", ">-", "-\n>", "--"):
            self.fails("BadText", {"place": 0}, lexemes, text)
        self.fails("BadText", {"place": 1}, lexemes, "0-")
        self.fails("BadText", {"place": 1}, lexemes, "a-->b")
        self.fails("BadText", {"place": 2}, lexemes, "->>")

    def test_what_begins_no_lexeme(self):
        for mark in "\tABZ_!\"#$%&'()*+.<=>?@\\^`|~-":
            self.fails("BadText", {"place": 0}, lexemes, mark)
            self.fails("BadText", {"place": 4}, lexemes, "a\n b" + mark)
            self.fails("BadText", {"place": 2}, lexemes, "1 " + mark + " " + mark)

    def test_any_texts(self):
        rng = rng_of(21)
        for _ in range(3000):
            text = "".join(rng.choice("ab019 \n{};->x-\tabcdefghijk0") for _ in range(rng.randint(0, 30)))
            wanted, stop = plain_lexemes(text)
            if stop < len(text):
                self.fails("BadText", {"place": stop}, lexemes, text)
            else:
                self.tells(wanted, lexemes, text)


if __name__ == "__main__":
    unittest.main()
