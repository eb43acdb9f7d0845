"""Games on small yards: requests that raise the ranks, gifts that are let for them, and what is kept at best."""

from shareforsure.quotients import greatest_of, least_form, least_of
from shareforsure.ranks import ranks_after
from shareforsure.standings import RankWalk, first_standing, loads_behind, share_of
from shareforsure.tables import requests_of


class Game:
    """Tells where the gifts lead from the standings of a small yard, and the values of these standings.

    The values that were told are kept, as many standings lead to the same ones.
    """

    def __init__(self, yard):
        self._yard = yard
        self._requests = requests_of(yard)
        self._walk = RankWalk(yard)
        self._values = {}

    def leads(self, standing):
        """The list that has for each request, in order, where its gifts lead from a standing.

        This is the dict from the gifts that are let to standings, or None if the request does not raise the ranks.
        """
        loads, ranks = standing
        found = []
        for request, behind in zip(self._requests, self._walk.ranks_behind(ranks)):
            if behind == ranks:
                found.append(None)
            else:
                gifts = lets(self._yard, standing, request)
                found.append({gift: (loads_behind(loads, gift), behind) for gift in gifts})
        return found

    def value_of(self, standing):
        """The value of a standing, a fraction, perhaps not in least form."""
        if standing not in self._values:
            values = [share_of(self._yard, standing)]
            for led_to in self.leads(standing):
                if led_to is not None:
                    values.append(greatest_of([self.value_of(led_to[gift]) for gift in led_to]))
            self._values[standing] = least_of(values)
        return self._values[standing]


def raises(yard, standing, request):
    """Whether a request raises the ranks of a standing."""
    return _ranks_behind(yard, standing, request) != standing[1]


def lets(yard, standing, request):
    """The list of the gifts that are let for a request: None, and then the houses, ascending."""
    loads = standing[0]
    return [None] + [house for house in request if loads[house] < yard[0]]


def led(yard, standing, request, gift):
    """The standing to which a gift that is let leads."""
    return loads_behind(standing[0], gift), _ranks_behind(yard, standing, request)


def value(yard, standing):
    """The value of a standing, a fraction in least form."""
    return least_form(Game(yard).value_of(standing))


def best_share(yard):
    """The greatest share that any giver has for sure on a yard, a fraction in least form."""
    return value(yard, first_standing(yard))


def _ranks_behind(yard, standing, request):
    return ranks_after(yard[0], len(yard[1]), standing[1], request)
