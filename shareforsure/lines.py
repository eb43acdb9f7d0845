"""Lines of consoles: what one tells, as a tuple that begins with a word.

An act is told as a desk takes it, everything else by its word and the names behind it.
"""

from shareforsure.errors import BadText
from shareforsure.forms import (Reader, lots_many, next_is_part, part_many, read_part, read_request, read_runs,
                                runs_many, told_part, told_request, told_runs)
from shareforsure.sheettexts import check_many

NAMES_BEHIND = {"drop": 1, "undo": 0, "redo": 0, "mark": 1, "since": 1, "most": 1, "told": 1, "quotient": 1, "run": 1,
                "given": 2, "ran": 2, "show": 3, "least": 1, "best": 0, "parts": 0}


def read_line(line):
    """What a string tells as a line; raises BadText with its first wrong place, and then TooGreat."""
    reader = Reader(line)
    if next_is_part(reader):
        return _read_put(reader)
    if reader.next_is("yard"):
        return _read_yard(reader)
    if reader.next_is("add"):
        return _read_add(reader)
    return _read_names(reader)


def _read_put(reader):
    part = read_part(reader)
    reader.finish()
    check_many(part_many(part))
    return "put", told_part(part)


def _read_yard(reader):
    reader.take("yard")
    c = reader.take_numeral()
    reader.take(":")
    worths = read_runs(reader)
    _end(reader)
    check_many(runs_many(worths))
    return "yard", (c, told_runs(worths))


def _read_add(reader):
    reader.take("add")
    name = reader.take_word()
    spans = read_request(reader)
    _end(reader)
    check_many(lots_many([(spans, 1)]))
    return "add", name, told_request(spans)


def _read_names(reader):
    if not any([reader.next_is(word) for word in NAMES_BEHIND]):
        raise BadText(reader.wrong_place())
    word = reader.take_word()
    names = [reader.take_word() for _ in range(NAMES_BEHIND[word])]
    _end(reader)
    return (word, *names)


def _end(reader):
    """Goes by the semicolon at the end of a line."""
    reader.take(";")
    reader.finish()
