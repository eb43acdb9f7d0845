"""Givers: they get request by request, and give each to a house at once, or never."""

from shareforsure.rises import pull


class ToldGiver:
    """Gives each request to the named house with the greatest pull; changes as it gives."""

    def __init__(self, yard):
        houses = range(len(yard[1]))
        self._yard = yard
        self._loads = [0 for _ in houses]
        self._pulls = [pull(yard, house, 0) for house in houses]

    def give(self, request):
        """Goes on by a request: returns the house to which it is given, or None."""
        house = strongest(self._pulls, request)
        if house is not None:
            self._loads[house] += 1
            self._pulls[house] = pull(self._yard, house, self._loads[house])
        return house

    def loads(self):
        """The tuple of the loads so far."""
        return tuple(self._loads)


class CallGiver:
    """Gives as a function of one argument, the request, tells."""

    def __init__(self, call):
        self._call = call

    def give(self, request):
        """What the function returns for the request, as it is."""
        call = self._call
        return call(request)


class RowGiver:
    """Gives the members of a list, one after another, whatever is asked."""

    def __init__(self, gifts):
        self._gifts = [_own(gift) for gift in gifts]
        self._at = 0

    def give(self, request):
        """The next member of the list."""
        gift = self._gifts[self._at]
        self._at += 1
        return gift


def run(giver, row):
    """The run of a giver on a list of requests, a tuple; the giver goes on where it stands."""
    return tuple([giver.give(request) for request in row])


def strongest(pulls, request):
    """The named house with the greatest pull above 0, of equal ones that with the least number, or None."""
    house = max(request, key=lambda named: pulls[named], default=None)
    return None if house is None or pulls[house] == 0 else house


def _own(value):
    """A value again, in which no list and no dict is one that was passed."""
    if isinstance(value, dict):
        return {key: _own(value[key]) for key in value}
    if isinstance(value, list):
        return [_own(member) for member in value]
    if isinstance(value, tuple):
        return tuple([_own(member) for member in value])
    return value
