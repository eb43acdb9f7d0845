"""Tables of small yards, and what a giver gives that goes by one."""

from shareforsure.errors import TooGreat
from shareforsure.givers import strongest
from shareforsure.rises import pull

MOST_LOADS = 27


def check_small(yard):
    """Raises TooGreat if a yard has too many tuples of loads."""
    c, worths = yard
    many = 1
    for _ in worths:
        # It stops at once, as there may be very many houses, and c may be very great.
        many = many * (c + 1)
        if many > MOST_LOADS:
            raise TooGreat()


def requests_of(yard):
    """The ascending list of all requests of a small yard."""
    check_small(yard)
    requests = [()]
    for house in range(len(yard[1])):
        requests = requests + [request + (house,) for request in requests]
    return sorted(requests)


def told_table(yard):
    """The table of what the told giver gives on a small yard."""
    return _table_by(yard, lambda house, load: pull(yard, house, load))


def greedy_table(yard):
    """The table that gives to a house of the greatest worth that has room, on a small yard."""
    c, worths = yard
    return _table_by(yard, lambda house, load: worths[house] if load < c else 0)


def table_gifts(yard, table, row):
    """The gifts, a tuple, of a table giver for a list of requests."""
    told = gifts_by_case(table)
    loads = [0] * len(yard[1])
    gifts = []
    for request in row:
        gift = told.get((tuple(loads), request))
        if gift is not None:
            loads[gift] += 1
        gifts.append(gift)
    return tuple(gifts)


def gifts_by_case(table):
    """The dict from the pairs (loads, request) of a table to their gifts."""
    return {case: gift for case, gift in table}


def _all_loads(yard):
    """The ascending list of all tuples of loads."""
    c, worths = yard
    found = [()]
    for _ in worths:
        found = [loads + (load,) for loads in found for load in range(c + 1)]
    return found


def _table_by(yard, pull_of):
    """The table that gives to the named house with the greatest pull, which a function tells by house and load."""
    requests = requests_of(yard)
    table = []
    for loads in _all_loads(yard):
        pulls = [pull_of(house, load) for house, load in enumerate(loads)]
        for request in requests:
            gift = strongest(pulls, request)
            if gift is not None:
                table.append(((loads, request), gift))
    return tuple(table)
