"""Eager givers: they have some times the room, and give each request to a house of the greatest worth with room."""

from shareforsure.givers import run, strongest


class RoomyHouses:
    """The houses of a yard with m times the room, and the worths of those that are not full."""

    def __init__(self, yard, m):
        c, worths = yard
        self._rooms = [m * c for _ in worths]
        self._open_worths = list(worths)

    def best_named(self, request):
        """The named house with room that has the greatest worth, of equal ones the least number, or None."""
        return strongest(self._open_worths, request)

    def take(self, house):
        """Goes on by a gift to a house with room."""
        self._rooms[house] -= 1
        if self._rooms[house] == 0:
            self._open_worths[house] = 0


class FirstGiver:
    """Gives each request to the first one of the best named houses with room; changes as it gives."""

    def __init__(self, yard, m):
        self._houses = RoomyHouses(yard, m)

    def give(self, request):
        """Goes on by a request: returns the house to which it is given, or None."""
        house = self._houses.best_named(request)
        if house is not None:
            self._houses.take(house)
        return house


def first_gifts(yard, m, row):
    """The first giver's run for m on a row, a tuple."""
    return run(FirstGiver(yard, m), row)


def is_eager(yard, m, row, gifts):
    """Whether gifts of a row, with m times the room, are eager."""
    worths = yard[1]
    houses = RoomyHouses(yard, m)
    for request, gift in zip(row, gifts):
        best = houses.best_named(request)
        if best is not None and (gift is None or worths[gift] < worths[best]):
            return False
        if gift is not None:
            houses.take(gift)
    return True


def bare_row(m, c):
    """The pair of the yard of the bare row for m and c, and of the row."""
    houses = tuple(range(m + 1))
    return (c, (1,) * (m + 1)), (houses,) * (m * c) + ((0,),) * c
