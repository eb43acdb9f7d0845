"""The forms of texts: what is read is kept as short as it is told, counted, judged, and then told in full.

A run is a pair (value, times), a span a pair (first, last), a lot a pair (spans, times), a case a
triple (loads, spans, gift). Nothing is told in full before it is counted, as numerals may be great;
and what is told as one is judged as one, as there may be very many of it.
"""

from shareforsure.errors import BadText
from shareforsure.gifts import is_let
from shareforsure.lexemes import lexemes_until
from shareforsure.sheets import loads_fault


class Reader:
    """Goes through the lexemes of a text, one by one; raises BadText with its first wrong place."""

    def __init__(self, text):
        self.found, self.stop = lexemes_until(text)
        self.size = len(text)
        self.at = 0

    def next_is(self, lexeme):
        """Whether the next lexeme is a told word or sign."""
        return self.at < len(self.found) and self.found[self.at][1] == lexeme

    def next_sort_is(self, sort):
        """Whether the next lexeme is of a told sort."""
        return self.at < len(self.found) and self.found[self.at][0] == sort

    def wrong_place(self):
        """The first wrong place, if the next lexeme, or what stands in its place, does not fit."""
        if self.at < len(self.found):
            return self.found[self.at][2]
        return self.stop

    def take(self, lexeme):
        """Goes by a told word or sign."""
        if not self.next_is(lexeme):
            raise BadText(self.wrong_place())
        self.at += 1

    def take_sort(self, sort):
        """Goes by a lexeme of a told sort, and returns it."""
        if not self.next_sort_is(sort):
            raise BadText(self.wrong_place())
        self.at += 1
        return self.found[self.at - 1][1]

    def take_word(self):
        """Goes by a word, and returns it."""
        return self.take_sort("word")

    def take_numeral(self):
        """Goes by a numeral, and returns its number."""
        return int(self.take_sort("numeral"))

    def finish(self):
        """Raises BadText unless the text ends here."""
        if self.at < len(self.found) or self.stop < self.size:
            raise BadText(self.wrong_place())


def read_sheet_form(reader):
    """Reads SHEET: returns the room, the runs of the worths, and the list of the parts as read."""
    reader.take("sheet")
    reader.take("{")
    reader.take("room")
    c = reader.take_numeral()
    reader.take(";")
    reader.take("houses")
    worths = read_runs(reader)
    reader.take(";")
    parts = []
    while next_is_part(reader):
        parts.append(read_part(reader))
    reader.take("}")
    return c, worths, parts


def next_is_part(reader):
    """Whether the next lexeme begins a PART."""
    return any([reader.next_is(word) for word in PART_READERS])


def read_part(reader):
    """Reads PART, which the next lexeme begins: returns its word, its name and its value as read."""
    word = reader.take_word()
    name = reader.take_word()
    read_value = PART_READERS[word]
    value = read_value(reader)
    reader.take(";")
    return word, name, value


def read_runs(reader):
    """Reads RUNS."""
    if not reader.next_sort_is("numeral"):
        return []
    return _read_listed(reader, _read_run)


def read_gift_runs(reader):
    """Reads GIFTS."""
    if not reader.next_sort_is("numeral") and not reader.next_is("none"):
        return []
    return _read_listed(reader, _read_gift_run)


def read_lots(reader):
    """Reads REQUESTS."""
    lots = []
    while reader.next_is("["):
        spans = read_request(reader)
        lots.append((spans, _read_times(reader)))
    return lots


def read_request(reader):
    """Reads REQUEST: returns its spans."""
    reader.take("[")
    spans = []
    while reader.next_sort_is("numeral"):
        spans.append(_read_span(reader))
    reader.take("]")
    return spans


def _read_listed(reader, read_one):
    found = [read_one(reader)]
    while reader.next_is(","):
        reader.take(",")
        found.append(read_one(reader))
    return found


def _read_times(reader):
    """Reads how often something is told, which is once if nothing tells it."""
    if not reader.next_is("x"):
        return 1
    reader.take("x")
    return reader.take_numeral()


def _read_run(reader):
    number = reader.take_numeral()
    return number, _read_times(reader)


def _read_gift_run(reader):
    gift = _read_gift(reader)
    return gift, _read_times(reader)


def _read_gift(reader):
    if reader.next_is("none"):
        reader.take("none")
        return None
    return reader.take_numeral()


def _read_span(reader):
    first = reader.take_numeral()
    if not reader.next_is("to"):
        return first, first
    reader.take("to")
    return first, reader.take_numeral()


def _read_cover(reader):
    houses = read_runs(reader)
    reader.take("/")
    return houses, read_runs(reader)


def _read_cases(reader):
    cases = []
    while reader.next_is("{"):
        cases.append(_read_case(reader))
    return cases


def _read_case(reader):
    reader.take("{")
    loads = []
    while reader.next_sort_is("numeral"):
        loads.append(reader.take_numeral())
    reader.take(":")
    spans = read_request(reader)
    reader.take("->")
    gift = _read_gift(reader)
    reader.take("}")
    return loads, spans, gift


def runs_many(runs):
    """How many members runs, or gift runs, tell."""
    return sum([times for _, times in runs])


def lots_many(lots):
    """How many members lots tell: each request counts as one, and each of its houses."""
    return sum([(1 + _spans_many(spans)) * times for spans, times in lots])


def part_many(part):
    """How many members a part as read tells."""
    word, _, value = part
    count = PART_COUNTS[word]
    return count(value)


def _spans_many(spans):
    return sum([max(0, last - first + 1) for first, last in spans])


def _cover_many(cover):
    houses, requests = cover
    return runs_many(houses) + runs_many(requests)


def _cases_many(cases):
    return sum([len(loads) + _spans_many(spans) for loads, spans, _ in cases])


def read_sheet_fault(c, worths, parts):
    """The path to the first wrong part of the sheet that is told by what was read, or None if all is right."""
    if c == 0:
        return (0, 0)
    if runs_many(worths) == 0:
        return (0, 1)
    fault = _runs_fault(worths, lambda worth: () if worth == 0 else None)
    if fault is not None:
        return (0, 1) + fault
    fault = _parts_fault((c, told_runs(worths)), parts)
    return None if fault is None else (1,) + fault


def _parts_fault(yard, parts):
    earlier = {}
    for at, (word, name, value) in enumerate(parts):
        if name in earlier:
            return (at, 1)
        judge = PART_JUDGES[word]
        fault = judge(yard, value)
        if fault is not None:
            return (at, 2) + fault
        earlier[name] = True
    return None


def _runs_fault(runs, value_fault):
    """The path to the first wrong one of what runs, or lots, tell, by a function that tells the fault of a value."""
    at = 0
    for value, times in runs:
        fault = None if times == 0 else value_fault(value)
        if fault is not None:
            return (at,) + fault
        at += times
    return None


def _lots_fault(yard, lots):
    return _runs_fault(lots, lambda spans: _spans_fault(yard, spans))


def _spans_fault(yard, spans):
    """The path to the first house of a request that is none, or not greater than the one ahead."""
    houses = len(yard[1])
    at = 0
    least = 0
    for first, last in spans:
        if last < first:
            continue
        if not least <= first < houses:
            return (at,)
        if last >= houses:
            return (at + houses - first,)
        at += last - first + 1
        least = last + 1
    return None


def _gift_runs_fault(yard, runs):
    return _runs_fault(runs, lambda gift: None if gift is None or gift < len(yard[1]) else ())


def _cover_fault(_, cover):
    """None: what numerals tell are numbers, and a cover may have any."""
    return None


def _cases_fault(yard, cases):
    before = None
    for at, (loads, spans, gift) in enumerate(cases):
        fault = _case_fault(yard, tuple(loads), spans)
        if fault is not None:
            return (at, 0) + fault
        case = (tuple(loads), told_request(spans))
        if before is not None and case <= before:
            return (at, 0)
        if not is_let(yard[0], case[0], case[1], gift):
            return (at, 1)
        before = case
    return None


def _case_fault(yard, loads, spans):
    fault = loads_fault(yard, loads)
    if fault is not None:
        return (0,) + fault
    fault = _spans_fault(yard, spans)
    return None if fault is None else (1,) + fault


def told_runs(runs):
    """The tuple of what runs, or gift runs, tell."""
    return _put_together([(value,) * times for value, times in runs])


def told_request(spans):
    """The request, a tuple, that spans tell."""
    return _put_together([(first,) if first == last else tuple(range(first, last + 1)) for first, last in spans])


def told_lots(lots):
    """The row that lots tell."""
    # What is told no times may have any number of houses, which count nothing.
    return _put_together([(told_request(spans),) * times for spans, times in lots if times > 0])


def _put_together(pieces):
    """Tuples one behind another: pair by pair, as each one more at a time would copy the first ones each time."""
    while len(pieces) > 1:
        paired = [first + second for first, second in zip(pieces[::2], pieces[1::2])]
        pieces = paired + pieces[2 * len(paired):]
    return pieces[0] if pieces else ()


def told_part(part):
    """The part, a triple, that a part as read tells."""
    word, name, value = part
    tell = PART_TELLERS[word]
    return word, name, tell(value)


def _told_cover(cover):
    houses, requests = cover
    return told_runs(houses), told_runs(requests)


def _told_cases(cases):
    return tuple([((tuple(loads), told_request(spans)), gift) for loads, spans, gift in cases])


PART_READERS = {"row": read_lots, "gifts": read_gift_runs, "cover": _read_cover, "giver": _read_cases}
PART_COUNTS = {"row": lots_many, "gifts": runs_many, "cover": _cover_many, "giver": _cases_many}
PART_JUDGES = {"row": _lots_fault, "gifts": _gift_runs_fault, "cover": _cover_fault, "giver": _cases_fault}
PART_TELLERS = {"row": told_lots, "gifts": told_runs, "cover": _told_cover, "giver": _told_cases}
