"""Sheets, rows and gifts as texts: how they are written, and what a text tells."""

from shareforsure.errors import BadTree, TooGreat
from shareforsure.forms import (Reader, lots_many, part_many, read_gift_runs, read_lots, read_sheet_fault,
                                read_sheet_form, runs_many, told_lots, told_part, told_runs)

MOST_MEMBERS = 100000
NO_BLANK_AHEAD = (";", ":", ",", "]", "}")
NO_BLANK_BEHIND = ("[", "{")


def sheet_text(sheet):
    """The written text of a sheet."""
    (c, worths), parts = sheet
    lines = [["sheet", "{"], ["room", str(c), ";"], ["houses", *_runs_lexemes(worths), ";"]]
    lines += [_part_lexemes(part) for part in parts]
    lines.append(["}"])
    return "".join([_joined(line) + "\n" for line in lines])


def row_text(row):
    """The written requests of a row of some yard."""
    return _joined(_row_lexemes(row))


def gifts_text(gifts):
    """The written gifts of a tuple of gifts."""
    return _joined(_runs_lexemes(gifts))


def read_sheet(text):
    """The sheet that a string tells; raises BadText, TooGreat or BadTree, in this order."""
    reader = Reader(text)
    c, worths, parts = read_sheet_form(reader)
    reader.finish()
    check_many(runs_many(worths) + sum([part_many(part) for part in parts]))
    fault = read_sheet_fault(c, worths, parts)
    if fault is not None:
        raise BadTree(fault)
    return (c, told_runs(worths)), tuple([told_part(part) for part in parts])


def read_row(text):
    """What a string, read as REQUESTS, tells; raises BadText, and then TooGreat."""
    reader = Reader(text)
    lots = read_lots(reader)
    reader.finish()
    check_many(lots_many(lots))
    return told_lots(lots)


def read_gifts(text):
    """What a string, read as GIFTS, tells; raises BadText, and then TooGreat."""
    reader = Reader(text)
    runs = read_gift_runs(reader)
    reader.finish()
    check_many(runs_many(runs))
    return told_runs(runs)


def check_many(many):
    """Raises TooGreat if a text tells too many members."""
    if many > MOST_MEMBERS:
        raise TooGreat()


def _joined(found):
    """Lexemes joined as a line of a written text has them."""
    pieces = []
    before = None
    for lexeme in found:
        if before is not None and before not in NO_BLANK_BEHIND and lexeme not in NO_BLANK_AHEAD:
            pieces.append(" ")
        pieces.append(lexeme)
        before = lexeme
    return "".join(pieces)


def _grouped(values):
    """The pairs (value, times) of values that stand one behind another as often as can be."""
    groups = []
    for value in values:
        if groups and groups[-1][0] == value:
            groups[-1] = (value, groups[-1][1] + 1)
        else:
            groups.append((value, 1))
    return groups


def _times_lexemes(times):
    return ["x", str(times)] if times > 1 else []


def _gift_lexeme(gift):
    return "none" if gift is None else str(gift)


def _runs_lexemes(gifts):
    """Gifts as they are written; numbers are written as gifts are that are all houses."""
    found = []
    for gift, times in _grouped(gifts):
        if found:
            found.append(",")
        found += [_gift_lexeme(gift), *_times_lexemes(times)]
    return found


def _request_lexemes(request):
    found = ["["]
    for first, last in _spans(request):
        found += [str(first)] if first == last else [str(first), "to", str(last)]
    return found + ["]"]


def _spans(request):
    """The pairs (first, last) of houses that follow each other, as many as can be in each."""
    spans = []
    for house in request:
        if spans and spans[-1][1] == house - 1:
            spans[-1] = (spans[-1][0], house)
        else:
            spans.append((house, house))
    return spans


def _row_lexemes(row):
    found = []
    for request, times in _grouped(row):
        found += _request_lexemes(request) + _times_lexemes(times)
    return found


def _cover_lexemes(cover):
    houses, requests = cover
    return _runs_lexemes(houses) + ["/"] + _runs_lexemes(requests)


def _table_lexemes(table):
    found = []
    for (loads, request), gift in table:
        found += ["{", *[str(load) for load in loads], ":"]
        found += _request_lexemes(request) + ["->", _gift_lexeme(gift), "}"]
    return found


def _part_lexemes(part):
    word, name, value = part
    write = PART_WRITERS[word]
    return [word, name] + write(value) + [";"]


PART_WRITERS = {"row": _row_lexemes, "gifts": _runs_lexemes, "cover": _cover_lexemes, "giver": _table_lexemes}
