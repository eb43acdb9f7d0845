"""Desks: a sheet that is changed by acts, which can be taken back, and asked about."""

from shareforsure.acts import act_fault, sheet_behind
from shareforsure.covers import cover_price, judge_cover
from shareforsure.errors import BadAct, BadAsk, NothingDone, UnknownName
from shareforsure.games import best_share
from shareforsure.gifts import gifts_fault, given_of
from shareforsure.leastshares import least_share
from shareforsure.most import most_given
from shareforsure.quotients import least_form
from shareforsure.shares import told_gifts
from shareforsure.sheets import part_named
from shareforsure.tables import table_gifts

FIRST_SHEET = ((1, (1,)), ())


class Desk:
    """A sheet, the acts that made it, marks, and the shares that it was asked; changes by what is done."""

    def __init__(self):
        # Of what was done each act is kept with the sheet behind it; so is what was taken back, the last one last.
        self._done = []
        self._taken_back = []
        self._marks = {}
        self._least_known = {}
        self._best_known = {}

    def sheet(self):
        """Its sheet."""
        return self._done[-1][1] if self._done else FIRST_SHEET

    def act_word(self, act):
        """The word with which an act, which may be anything, cannot be done now, or None."""
        return act_fault(self.sheet(), act)

    def do(self, act):
        """Does an act, which may be anything: returns how many acts are done then."""
        word = self.act_word(act)
        if word is not None:
            raise BadAct(word)
        self._done.append((act, sheet_behind(self.sheet(), act)))
        self._taken_back = []
        return len(self._done)

    def undo(self):
        """Takes the last act back: returns how many acts are done then."""
        if not self._done:
            raise NothingDone()
        self._taken_back.append(self._done.pop())
        return len(self._done)

    def redo(self):
        """Does the act that was taken back last again: returns how many acts are done then."""
        if not self._taken_back:
            raise NothingDone()
        self._done.append(self._taken_back.pop())
        return len(self._done)

    def acts(self):
        """The list of the acts that are done, each as it was passed."""
        return [act for act, _ in self._done]

    def most(self, name):
        """The most of a row."""
        return most_given(self._yard_now(), self._value(name, "row"))

    def told(self, name):
        """What the told giver gives of a row."""
        return given_of(self._yard_now(), self.run(name))

    def quotient(self, name):
        """What the told giver gives of a row by its most, a fraction in least form, or None if the most is 0."""
        most = self.most(name)
        return least_form((self.told(name), most)) if most > 0 else None

    def run(self, name):
        """The told giver's run on a row, a tuple."""
        return told_gifts(self._yard_now(), self._value(name, "row"))

    def given(self, row, gifts):
        """What gifts give of a row, both told by their names."""
        requests = self._value(row, "row")
        houses = self._value(gifts, "gifts")
        if gifts_fault(self._yard_now(), requests, houses) is not None:
            raise BadAsk("gifts")
        return given_of(self._yard_now(), houses)

    def ran(self, giver, row):
        """How much the giver of a table gives of a row, both told by their names."""
        table = self._value(giver, "giver")
        requests = self._value(row, "row")
        return given_of(self._yard_now(), table_gifts(self._yard_now(), table, requests))

    def show(self, row, gifts, cover):
        """None if gifts and a cover are shown to be best for a row, all by their names, or else what is not so."""
        requests = self._value(row, "row")
        houses = self._value(gifts, "gifts")
        numbers = self._value(cover, "cover")
        if gifts_fault(self._yard_now(), requests, houses) is not None:
            return ("gifts",)
        if judge_cover(self._yard_now(), requests, numbers) is not None:
            return ("cover",)
        given, price = given_of(self._yard_now(), houses), cover_price(self._yard_now(), numbers)
        return ("sum", given, price) if given < price else None

    def least(self, name):
        """The least share of a giver, a fraction in least form."""
        table = self._value(name, "giver")
        case = (self._yard_now(), table)
        if case not in self._least_known:
            self._least_known[case] = least_share(self._yard_now(), table)
        return self._least_known[case]

    def best(self):
        """The best share of all givers on the yard, a fraction in least form."""
        yard = self._yard_now()
        if yard not in self._best_known:
            self._best_known[yard] = best_share(yard)
        return self._best_known[yard]

    def work(self):
        """For how many unlike pairs of a yard and a table, and for how many unlike yards, a share was looked for."""
        return len(self._least_known), len(self._best_known)

    def mark(self, name):
        """Sets a mark with a name."""
        self._marks[name] = len(self._done)

    def since(self, name):
        """How many acts more are done than at the mark with a name, which may be anything."""
        # Marks are strings, and what is none may be nothing that can be looked for in a dict.
        if not isinstance(name, str) or name not in self._marks:
            raise UnknownName(name)
        return len(self._done) - self._marks[name]

    def marks(self):
        """The ascending list of the names of the marks."""
        return sorted(self._marks)

    def twin(self):
        """A desk that is as this one is now, and goes its own way from then on."""
        other = Desk()
        other._done = list(self._done)
        other._taken_back = list(self._taken_back)
        other._marks = dict(self._marks)
        other._least_known = {case: self._least_known[case] for case in self._least_known}
        other._best_known = {yard: self._best_known[yard] for yard in self._best_known}
        return other

    def _yard_now(self):
        return self.sheet()[0]

    def _value(self, name, word):
        """The value of the part with a name, which may be anything; raises BadAsk unless it is of the sort."""
        try:
            part = part_named(self.sheet(), name)
        except UnknownName:
            raise BadAsk("name") from None
        if part[0] != word:
            raise BadAsk("sort")
        return part[2]
