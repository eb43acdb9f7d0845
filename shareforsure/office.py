"""Offices: they go through a day, whose houses come and fall, and have a giver give what is asked for."""

from shareforsure.errors import NothingDone
from shareforsure.gifts import is_let
from shareforsure.households import Household


class Office:
    """Goes through a day event by event; changes as it goes on, and so does its giver."""

    def __init__(self, yard, names, day, giver):
        self._household = Household(yard, names)
        self._day = day
        self._giver = giver
        self._at = 0
        self._row = []
        self._gifts = []
        self._books = []
        self._turned = []

    def events(self):
        """How many events have gone by."""
        return self._at

    def is_over(self):
        """Whether the day is over."""
        return self._at == len(self._day)

    def step(self):
        """Goes through an event: returns the entry of an ask, and None otherwise."""
        if self.is_over():
            raise NothingDone()
        event = self._day[self._at]
        entry = None
        if event[0] == "ask":
            entry = self._ask(event)
        else:
            self._move(event)
        self._at += 1
        return entry

    def here(self):
        """The ascending list of the numbers of the houses that are here."""
        return self._household.here()

    def loads(self):
        """The tuple of the loads of all houses."""
        return self._household.loads()

    def row(self):
        """The tuple of the requests that the giver got so far."""
        return tuple(self._row)

    def gifts(self):
        """The tuple of the gifts so far."""
        return tuple(self._gifts)

    def books(self):
        """The list of the entries so far."""
        return list(self._books)

    def turned_away(self):
        """The list of the pairs (request, word): the names of those that were turned away so far, and why."""
        return list(self._turned)

    def _move(self, event):
        """Goes through a come or a fall, which does nothing if the house is here, or away, anyhow."""
        word, house = event
        is_here = self._household.is_here(house)
        if word == "come" and not is_here:
            self._household.come(house)
        if word == "fall" and is_here:
            self._household.fall(house)

    def _ask(self, event):
        """Goes through an ask: returns its entry."""
        _, name, houses = event
        request = self._household.seen(houses)
        gift = self._gift_for(request)
        if gift is None:
            self._turned.append((name, self._why(request)))
            entry = (self._at, name, None, 0)
        else:
            house = self._household.name_of(gift)
            self._household.take(house)
            entry = (self._at, name, house, self._household.worth_of(house))
        self._row.append(request)
        self._gifts.append(gift)
        self._books.append(entry)
        return entry

    def _gift_for(self, request):
        """What the giver gives to a request, whatever cannot be given counting as None."""
        gift = self._giver.give(request)
        return gift if is_let(self._household.yard()[0], self.loads(), request, gift) else None

    def _why(self, request):
        """Why a request is turned away."""
        c, _ = self._household.yard()
        loads = self.loads()
        if request == ():
            return "away"
        return "full" if all([loads[house] == c for house in request]) else "left"
