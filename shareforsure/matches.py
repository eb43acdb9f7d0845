"""Givers and players that go by papers for a small yard, and how a giver is played against such a player."""

from shareforsure.games import led, raises
from shareforsure.standings import first_standing
from shareforsure.tables import requests_of


class PaperGiver:
    """Gives as the giver paper tells at its standing, refuses what does not raise the ranks, and goes on."""

    def __init__(self, yard, paper):
        self._standing = first_standing(yard)
        self._yard = yard
        self._numbers = {request: number for number, request in enumerate(requests_of(yard))}
        self._gifts = {standing: gifts for standing, gifts in paper}

    def give(self, request):
        """Goes on by a request: returns the house to which it is given, or None."""
        gift = None
        if raises(self._yard, self._standing, request):
            gift = self._gifts[self._standing][self._numbers[request]]
        self._standing = led(self._yard, self._standing, request, gift)
        return gift

    def standing(self):
        """The standing at which it is."""
        return self._standing


class PaperPlayer:
    """Asks what the player paper tells at its standing, is told the gift, and goes on."""

    def __init__(self, yard, paper):
        self._standing = first_standing(yard)
        self._yard = yard
        self._requests = {standing: request for standing, request in paper}

    def asks(self):
        """The request that it asks, or None if the play is over."""
        return self._requests[self._standing]

    def told(self, gift):
        """Goes on by a gift that is let for the request that it asks."""
        self._standing = led(self._yard, self._standing, self.asks(), gift)

    def standing(self):
        """The standing at which it is."""
        return self._standing


def played(yard, paper, giver):
    """The row that the player of a player paper asks, and what a giver gave of it, when they are played."""
    player = PaperPlayer(yard, paper)
    row = []
    gifts = []
    while player.asks() is not None:
        request = player.asks()
        gift = giver.give(request)
        player.told(gift)
        row.append(request)
        gifts.append(gift)
    return tuple(row), tuple(gifts)
