"""What several tests share: outcomes of calls, values that are made up, and a second reading of the forms of texts."""

import copy
import itertools
import random
import re
import unittest

ODD = [None, True, False, 0, 1, -1, 10 ** 39, "", "a", "row", (), (1,), (0, 0), ((),), [], [0], [[0]], {}, {"a": 1},
       ((0, 0), (0, 0)), (None, None), ("form",), (True,), (-1,), ("0",), ([],), ({},), ((0,), (0,)), (((0,),),)]


def outcome(call, *args):
    """What a call returns or raises, as a tuple that can be compared by repr, which tells True from 1."""
    try:
        return "value", call(*args)
    except Exception as error:
        return type(error).__name__, dict(vars(error))


def lists_in(value):
    """All lists and dicts in a value."""
    found = [value] if isinstance(value, (list, dict)) else []
    if isinstance(value, (list, tuple)):
        for member in value:
            found += lists_in(member)
    return found


class Case(unittest.TestCase):
    """Each call is made three times: nothing that is passed may change, and what comes must be equal and new."""

    def same(self, call, *args):
        kept = repr(args)
        first, second = outcome(call, *args), outcome(call, *args)
        third = outcome(call, *copy.deepcopy(args))
        self.assertEqual(kept, repr(args))
        self.assertEqual(repr(first), repr(second))
        self.assertEqual(repr(first), repr(third))
        if first[0] == "value":
            made = lists_in(first[1]) + lists_in(second[1])
            self.assertEqual(len(made), len({id(value) for value in made}))
            passed = {id(value) for value in lists_in(args)}
            self.assertFalse([value for value in made if id(value) in passed])
        return first

    def value(self, call, *args):
        first = self.same(call, *args)
        self.assertEqual("value", first[0], first)
        return first[1]

    def tells(self, wanted, call, *args):
        self.assertEqual(repr(("value", wanted)), repr(self.same(call, *args)))

    def fails(self, word, attributes, call, *args):
        self.assertEqual(repr((word, attributes)), repr(self.same(call, *args)))


def yards(rng, houses, c, worth):
    """A yard of at most so many houses, with at most such numbers."""
    return rng.randint(1, c), tuple(rng.randint(1, worth) for _ in range(rng.randint(1, houses)))


def requests(rng, yard, most):
    """A request of at most so many houses."""
    houses = range(len(yard[1]))
    return tuple(sorted(rng.sample(houses, rng.randint(0, min(most, len(houses))))))


def rows(rng, yard, many, most):
    """A row of so many requests, of at most so many houses each."""
    return tuple(requests(rng, yard, most) for _ in range(many))


def some_gifts(rng, yard, row, refused=0.2):
    """Gifts that give where there is room, but refuse now and then."""
    loads = [0] * len(yard[1])
    gifts = []
    for request in row:
        roomy = [house for house in request if loads[house] < yard[0]]
        gift = None if not roomy or rng.random() < refused else rng.choice(roomy)
        if gift is not None:
            loads[gift] += 1
        gifts.append(gift)
    return tuple(gifts)


def all_gifts(yard, row):
    """All gifts there are for a small row."""
    for gifts in itertools.product(*[(None,) + request for request in row]):
        if all(gifts.count(house) <= yard[0] for house in range(len(yard[1]))):
            yield gifts


def most_by_places(yard, row):
    """The most, told another way: place by place of the houses, those of the greatest worths first (S3.4)."""
    c, worths = yard
    naming = [[at for at, request in enumerate(row) if house in request] for house in range(len(worths))]
    owner, held, most = {}, {}, 0
    for house in sorted(range(len(worths)), key=lambda at: -worths[at]):
        for number in range(c):
            if not fills((house, number), naming, owner, held):
                break
            most += worths[house]
    return most


def fills(place, naming, owner, held):
    """Whether one place more can have a request, others being moved, which is done then."""
    came, waiting = {}, [place]
    for now in waiting:
        for request in naming[now[0]]:
            if request in came:
                continue
            came[request] = now
            if request in owner:
                waiting.append(owner[request])
                continue
            while request is not None:
                now = came[request]
                owner[request] = now
                held[now], request = request, held.get(now)
            return True
    return False


def deep(value, depth=38):
    """A value within so many tuples."""
    for _ in range(depth):
        value = (value,)
    return value


def put(value, at, member):
    """A tuple with another member at a place."""
    return value[:at] + (member,) + value[at + 1:]


class Scripted:
    """A giver that returns what a function tells of the request, the houses with room, and the loads.

    The loads, and the requests that it was asked, are kept to be looked at.
    """

    def __init__(self, c, houses, tell):
        self.c = c
        self.loads = [0] * houses
        self.asked = []
        self.tell = tell

    def give(self, request):
        self.asked.append(request)
        gift = self.tell(request, [house for house in request if self.loads[house] < self.c], self.loads)
        if isinstance(gift, int) and not isinstance(gift, bool) and 0 <= gift < len(self.loads):
            self.loads[gift] += 1
        return gift


def by_share(c):
    """D and E of a room."""
    return (c + 1) ** c - c ** c, (c + 1) ** c


def told_by_hand(yard, row):
    """What the told giver gives, by the formulas of S4.2 and S4.3."""
    c, worths = yard
    sure, _ = by_share(c)
    loads = [0] * len(worths)
    gifts = []
    for request in row:
        pulls = [(worths[house] * (sure - (c + 1) ** loads[house] * c ** (c - loads[house]) + c ** c), -house)
                 for house in request]
        best, house = max(pulls, default=(0, 0))
        gifts.append(-house if best > 0 else None)
        if best > 0:
            loads[-house] += 1
    return tuple(gifts)


def tables(rng, yard, many):
    """A table of at most so many pairs."""
    c, worths = yard
    found = {}
    for _ in range(many):
        loads = tuple(rng.randint(0, c) for _ in worths)
        request = requests(rng, yard, len(worths))
        roomy = [house for house in request if loads[house] < c]
        found[loads, request] = rng.choice([None] + roomy)
    return tuple(sorted(found.items(), key=lambda pair: pair[0]))


def part_values(rng, yard, word):
    """The value of a part with a word."""
    houses = len(yard[1])
    if word == "row":
        row = [requests(rng, yard, houses) for _ in range(rng.randint(0, 5))]
        return tuple(request for request in row for _ in range(rng.choice([1, 1, 2, 3])))
    if word == "gifts":
        return tuple(rng.choice([None, rng.randrange(houses)]) for _ in range(rng.randint(0, 6)))
    if word == "cover":
        return tuple(tuple(rng.choice([0, 0, 1, 10 ** 9]) for _ in range(rng.randint(0, 5))) for _ in range(2))
    return tables(rng, yard, rng.randint(0, 4))


def sheets(rng):
    """A sheet."""
    yard = yards(rng, 6, 3, 3)
    names = rng.sample(["a", "b1", "row", "x", "to", "none", "sheet", "cover", "abcdefghijkl", "room"], 6)
    words = [rng.choice(["row", "gifts", "cover", "giver"]) for _ in range(rng.randint(0, 6))]
    return yard, tuple((word, name, part_values(rng, yard, word)) for word, name in zip(words, names))


# The forms as regular expressions over lexemes: None is nothing at all, () the empty text.

def cat(*parts):
    whole = ()
    for part in reversed(parts):
        whole = join(part, whole)
    return whole


def join(first, second):
    if first is None or second is None:
        return None
    if first == ():
        return second
    return first if second == () else ("cat", first, second)


def either(*parts):
    parts = [part for part in dict.fromkeys(parts) if part is not None]
    if len(parts) < 2:
        return parts[0] if parts else None
    return ("either", *parts)


def star(part):
    return ("star", part)


def sign(lexeme):
    return ("is", lexeme)


WORD = ("sort", "word")
NUMERAL = ("sort", "numeral")
TIMES = either((), cat(sign("x"), NUMERAL))
RUN = cat(NUMERAL, TIMES)
RUNS = either((), cat(RUN, star(cat(sign(","), RUN))))
SPAN = either(NUMERAL, cat(NUMERAL, sign("to"), NUMERAL))
REQUEST = cat(sign("["), star(SPAN), sign("]"))
REQUESTS = star(cat(REQUEST, TIMES))
GIFT = either(NUMERAL, sign("none"))
GIFTRUN = cat(GIFT, TIMES)
GIFTS = either((), cat(GIFTRUN, star(cat(sign(","), GIFTRUN))))
CASE = cat(sign("{"), star(NUMERAL), sign(":"), REQUEST, sign("->"), GIFT, sign("}"))
PART = either(cat(sign("row"), WORD, REQUESTS, sign(";")), cat(sign("gifts"), WORD, GIFTS, sign(";")),
              cat(sign("cover"), WORD, RUNS, sign("/"), RUNS, sign(";")),
              cat(sign("giver"), WORD, star(CASE), sign(";")))
SHEET = cat(sign("sheet"), sign("{"), sign("room"), NUMERAL, sign(";"), sign("houses"), RUNS, sign(";"),
            star(PART), sign("}"))


def can_end(form):
    if form is None or form == ():
        return form == ()
    if form[0] == "cat":
        return can_end(form[1]) and can_end(form[2])
    if form[0] == "either":
        return any(can_end(part) for part in form[1:])
    return form[0] == "star"


def behind(form, sort, lexeme):
    """What may come behind a lexeme with which a text of the form begins."""
    if form is None or form == ():
        return None
    if form[0] == "is":
        return () if form[1] == lexeme else None
    if form[0] == "sort":
        return () if form[1] == sort else None
    if form[0] == "either":
        return either(*[behind(part, sort, lexeme) for part in form[1:]])
    if form[0] == "star":
        return join(behind(form[1], sort, lexeme), form)
    first = join(behind(form[1], sort, lexeme), form[2])
    return either(first, behind(form[2], sort, lexeme)) if can_end(form[1]) else first


LEXEME = re.compile(r"(?P<word>[a-z][a-z0-9]*)|(?P<numeral>0|[1-9][0-9]*)|(?P<sign>->|[{}\[\];:,/])")


def plain_lexemes(text):
    """The lexemes ahead of the first character that begins none, and its place, or the text's length."""
    found, at = [], 0
    while at < len(text):
        if text[at] in " \n":
            at += 1
            continue
        match = LEXEME.match(text, at)
        if match is None or match.lastgroup == "word" and len(match.group()) > 12:
            return found, at
        found.append((match.lastgroup, match.group(), at))
        at = match.end()
    return found, at


def wrong_place(form, text):
    """The first wrong place of a text of a form, or None."""
    found, stop = plain_lexemes(text)
    for sort, lexeme, place in found:
        form = behind(form, sort, lexeme)
        if form is None:
            return place
    return stop if stop < len(text) or not can_end(form) else None


def spaced(rng, lexemes):
    """A text of lexemes with blanks and line feeds anywhere, and none where none is needed."""
    text = rng.choice(["", "", " ", "\n"])
    for at, lexeme in enumerate(lexemes):
        text += lexeme
        follower = lexemes[at + 1] if at + 1 < len(lexemes) else ";"
        if lexeme[0].islower():
            needed = follower[0].isalnum()
        else:
            needed = lexeme[0] in "123456789" and follower[0].isdigit()
        text += rng.choice([" ", "\n", "  \n "] if needed else ["", "", " ", "\n"])
    return text


def rng_of(seed):
    return random.Random(seed)
