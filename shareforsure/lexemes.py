"""The lexemes of texts: words, numerals and signs."""

from shareforsure.errors import BadText
from shareforsure.words import MOST_IN_A_WORD, is_digit, is_letter

SIGNS = ("{", "}", "[", "]", ";", ":", ",", "/")


def lexemes(text):
    """The list of the lexemes of a string, each a tuple of its sort, itself and its place."""
    found, stop = lexemes_until(text)
    if stop < len(text):
        raise BadText(stop)
    return found


def lexemes_until(text):
    """The lexemes ahead of the first character that begins none, and its place, or the length of the text."""
    found = []
    at = 0
    while at < len(text):
        if text[at] == " " or text[at] == "\n":
            at += 1
            continue
        sort, end = _lexeme_at(text, at)
        if end == at:
            return found, at
        found.append((sort, text[at:end], at))
        at = end
    return found, at


def _lexeme_at(text, at):
    """The sort of the lexeme that begins at a place, and its end, which is the place itself if none does."""
    if is_letter(text[at]):
        return "word", _word_end(text, at)
    if is_digit(text[at]):
        return "numeral", _numeral_end(text, at)
    return "sign", _sign_end(text, at)


def _word_end(text, at):
    end = at
    while end < len(text) and (is_letter(text[end]) or is_digit(text[end])):
        end += 1
    return end if end - at <= MOST_IN_A_WORD else at


def _numeral_end(text, at):
    end = at + 1
    if text[at] == "0":
        return end
    while end < len(text) and is_digit(text[end]):
        end += 1
    return end


def _sign_end(text, at):
    if text[at] in SIGNS:
        return at + 1
    return at + 2 if text[at:at + 2] == "->" else at
